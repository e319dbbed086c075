package thread_test

import (
	"math"
	"math/rand"
	"reflect"
	"slices"
	"testing"

	"exegesis/api"
	"exegesis/lang"
	"exegesis/thread"
)

func code(lines ...string) []api.Instr {
	var l []api.Instr
	for _, s := range lines {
		i, ok := lang.ParseLine(s)
		if !ok {
			panic(s)
		}
		l = append(l, i)
	}
	return l
}

func pairs(v ...int) []api.Pair {
	var l []api.Pair
	for i := 0; i < len(v); i += 2 {
		l = append(l, api.Pair{A: v[i], B: v[i+1]})
	}
	return l
}

func regs(v ...int) []int { return append(v, make([]int, api.MaxRegs-len(v))...) }

func read(mode, loc, v int) api.Event {
	return api.Event{Kind: api.Read, Mode: mode, Loc: loc, Value: v}
}

func write(mode, loc, v int) api.Event {
	return api.Event{Kind: api.Write, Mode: mode, Loc: loc, Value: v}
}

func bar(mode int) api.Event { return api.Event{Kind: api.Bar, Mode: mode} }

func ex(e api.Event) api.Event {
	e.Ex = true
	return e
}

func same(a, b thread.Run) bool {
	return slices.Equal(a.Events, b.Events) && slices.Equal(a.Rmw, b.Rmw) && slices.Equal(a.Data, b.Data) && slices.Equal(a.Ctrl, b.Ctrl) && a.Used == b.Used && slices.Equal(a.Regs, b.Regs)
}

// P5.1
func TestDo(t *testing.T) {
	for i, x := range []struct {
		l     []api.Instr
		reads []int
		run   thread.Run
	}{
		{nil, nil, thread.Run{Regs: regs()}},
		{code("r1 = load x rlx", "store y rlx r1"), []int{7}, thread.Run{Events: []api.Event{read(0, 0, 7), write(0, 1, 7)}, Data: pairs(0, 1), Used: 1, Regs: regs(0, 7)}},
		{code("store w rel 3 4 *", "fence sc", "r0 = load z acq"), []int{-5, 9}, thread.Run{Events: []api.Event{write(api.Rel, 3, 12), bar(api.SC), read(api.Acq, 2, -5)}, Used: 1, Regs: regs(-5)}},
		// A Set hands on where values come from; a Set of a constant forgets it.
		{code("r1 = load x rlx", "r2 = load y rlx", "r3 = r1 r2 +", "r1 = 5", "store x rlx r3", "store x rlx r1"), []int{1, 2}, thread.Run{Events: []api.Event{read(0, 0, 1), read(0, 1, 2), write(0, 0, 3), write(0, 0, 5)}, Data: pairs(0, 2, 1, 2), Used: 2, Regs: regs(0, 5, 2, 3)}},
		// Each once: both registers come from one read.
		{code("r1 = load x rlx", "r2 = r1 1 +", "store y rlx r1 r2 +"), []int{4}, thread.Run{Events: []api.Event{read(0, 0, 4), write(0, 1, 9)}, Data: pairs(0, 1), Used: 1, Regs: regs(0, 4, 5)}},
		// A Load's register comes from that read alone.
		{code("r1 = load x rlx", "r1 = load x rlx", "store y rlx r1"), []int{4, 5}, thread.Run{Events: []api.Event{read(0, 0, 4), read(0, 0, 5), write(0, 1, 5)}, Data: pairs(1, 2), Used: 2, Regs: regs(0, 5)}},
		// A Faa.
		{code("r1 = faa x acq rel 2 3 +", "store y rlx r1"), []int{10}, thread.Run{Events: []api.Event{ex(read(api.Acq, 0, 10)), ex(write(api.Rel, 0, 15)), write(0, 1, 10)}, Rmw: pairs(0, 1), Data: pairs(0, 1, 0, 2), Used: 1, Regs: regs(0, 10)}},
		{code("r1 = faa x rlx rlx 1", "r2 = faa x rlx rlx 1"), []int{math.MaxInt, 1}, thread.Run{Events: []api.Event{ex(read(0, 0, math.MaxInt)), ex(write(0, 0, math.MinInt)), ex(read(0, 0, 1)), ex(write(0, 0, 2))}, Rmw: pairs(0, 1, 2, 3), Data: pairs(0, 1, 2, 3), Used: 2, Regs: regs(0, math.MaxInt, 1)}},
		{code("r3 = load y rlx", "r1 = faa x rlx rlx r3 r3 +"), []int{4, 10}, thread.Run{Events: []api.Event{read(0, 1, 4), ex(read(0, 0, 10)), ex(write(0, 0, 18))}, Rmw: pairs(1, 2), Data: pairs(0, 2, 1, 2), Used: 2, Regs: regs(0, 10, 0, 4)}},
		{code("r0 = load x rlx", "skip 0 r0", "store y rlx r0"), []int{4}, thread.Run{Events: []api.Event{read(0, 0, 4), write(0, 1, 4)}, Data: pairs(0, 1), Ctrl: pairs(0, 1), Used: 1, Regs: regs(4)}},
		// What two registers come from is no matter to a third one.
		{code("r0 = load x rlx", "r1 = load x rlx", "r2 = load x rlx", "r3 = load x rlx", "r4 = load x rlx", "r5 = r0 r1 + r2 +", "r6 = r5 r3 +", "r7 = r5 r4 +", "store y rlx r6", "store y rlx r7", "store y rlx r5"), []int{1, 2, 3, 4, 5}, thread.Run{Events: []api.Event{read(0, 0, 1), read(0, 0, 2), read(0, 0, 3), read(0, 0, 4), read(0, 0, 5), write(0, 1, 10), write(0, 1, 11), write(0, 1, 6)}, Data: pairs(0, 5, 0, 6, 0, 7, 1, 5, 1, 6, 1, 7, 2, 5, 2, 6, 2, 7, 3, 5, 4, 6), Used: 5, Regs: regs(1, 2, 3, 4, 5, 6, 10, 11)}},
		// Control: taken or not, all events behind it.
		{code("r1 = load x rlx", "skip 1 r1", "store y rlx 1", "fence acq", "r2 = load y rlx"), []int{1, 6}, thread.Run{Events: []api.Event{read(0, 0, 1), bar(api.Acq), read(0, 1, 6)}, Ctrl: pairs(0, 1, 0, 2), Used: 2, Regs: regs(0, 1, 6)}},
		{code("r1 = load x rlx", "skip 1 r1", "store y rlx 1", "r2 = faa y rlx rlx 1"), []int{0, 6}, thread.Run{Events: []api.Event{read(0, 0, 0), write(0, 1, 1), ex(read(0, 1, 6)), ex(write(0, 1, 7))}, Rmw: pairs(2, 3), Data: pairs(2, 3), Ctrl: pairs(0, 1, 0, 2, 0, 3), Used: 2, Regs: regs(0, 0, 6)}},
		// Control grows, and is by A first.
		{code("r1 = load x rlx", "r2 = load x rlx", "skip 0 r2", "store y rlx 1", "skip 0 r1 0 *", "store y rlx 2"), []int{1, 2}, thread.Run{Events: []api.Event{read(0, 0, 1), read(0, 0, 2), write(0, 1, 1), write(0, 1, 2)}, Ctrl: pairs(0, 3, 1, 2, 1, 3), Used: 2, Regs: regs(0, 1, 2)}},
		// Left out to the end; a register that no read gave leaves control alone.
		{code("skip 2 1", "r1 = load x rlx", "fence sc"), nil, thread.Run{Regs: regs()}},
		{code("skip 2 r3", "r1 = load x rlx", "fence sc"), []int{3, 3}, thread.Run{Events: []api.Event{read(0, 0, 3), bar(api.SC)}, Used: 1, Regs: regs(0, 3)}},
		{code("r1 = load x rlx", "skip 3 r1 1 =", "skip 1 r1", "r2 = 2", "r3 = 3", "r4 = 4"), []int{1}, thread.Run{Events: []api.Event{read(0, 0, 1)}, Used: 1, Regs: regs(0, 1, 0, 0, 4)}},
	} {
		run, ok := thread.Do(x.l, x.reads)
		if !ok || !same(run, x.run) {
			t.Error(i, run, ok)
		}
	}
}

// P5.1: too few values.
func TestShort(t *testing.T) {
	for i, x := range []struct {
		l     []api.Instr
		reads []int
	}{
		{code("r1 = load x rlx"), nil}, {code("r1 = faa x rlx rlx 1"), nil}, {code("r1 = load x rlx", "r2 = load x rlx"), []int{1}}, {code("r1 = load x rlx", "skip 1 r1", "r2 = load x rlx"), []int{0}}, {code("store x rlx 1", "fence sc", "r1 = faa x rlx rlx 1", "r1 = faa x rlx rlx 1"), []int{5}},
	} {
		if run, ok := thread.Do(x.l, x.reads); ok || !reflect.DeepEqual(run, thread.Run{}) {
			t.Error(i, run)
		}
	}
	if _, ok := thread.Do(code("r1 = load x rlx", "skip 1 r1", "r2 = load x rlx"), []int{1}); !ok {
		t.Error("a read that is left out needs no value")
	}
}

// P5.1: a thread may be long.
func TestLong(t *testing.T) {
	l := code("r1 = load x rlx", "r2 = r1 r2 +")
	var long []api.Instr
	var reads []int
	for i := range 100 {
		long = append(long, l...)
		reads = append(reads, i)
	}
	long = append(long, code("store y rlx r2", "skip 0 r2", "fence sc")...)
	run, ok := thread.Do(long, reads)
	if !ok || len(run.Data) != 100 || len(run.Ctrl) != 100 || run.Data[99] != (api.Pair{A: 99, B: 100}) || run.Ctrl[99] != (api.Pair{A: 99, B: 101}) || run.Regs[2] != 4950 || run.Used != 100 {
		t.Error(run, ok)
	}
}

// R1: instructions that may not be: any answer, and an end.
func TestNone(t *testing.T) {
	rnd := rand.New(rand.NewSource(1))
	wild := []int{math.MinInt, -9, -1, 0, 1, 2, 3, 7, 8, 64, math.MaxInt}
	some := func() int { return wild[rnd.Intn(len(wild))] }
	for range 5000 {
		var l []api.Instr
		for range rnd.Intn(6) {
			i := api.Instr{Kind: rnd.Intn(8), Mode: some(), Mode2: some(), Reg: some(), Loc: some(), N: some()}
			for range rnd.Intn(4) {
				i.E = append(i.E, api.Tok{Kind: rnd.Intn(5), V: some()})
			}
			l = append(l, i)
		}
		thread.Do(l, []int{some(), some(), some()}[:rnd.Intn(4)])
	}
	thread.Do([]api.Instr{{Kind: math.MinInt}, {Kind: math.MaxInt}}, nil)
}

// P5.2
func TestMoreValues(t *testing.T) {
	l := code("r1 = load x rlx", "skip 2 r1 1 <", "r2 = load y acq", "store z rel r2 r1 +", "r3 = faa x rlx rel 2", "skip 0 r3", "fence sc")
	for _, reads := range [][]int{{0, 5}, {1, 5, 6}, {-1, 2}} {
		a, ok := thread.Do(l, reads)
		if !ok || a.Used != len(reads) {
			t.Error(reads, a, ok)
		}
		kept := slices.Clone(reads)
		b, ok := thread.Do(l, append(slices.Clone(reads), 1, 2, 3))
		if !ok || !same(a, b) || !slices.Equal(kept, reads) {
			t.Error(reads, a, b, ok)
		}
	}
}
