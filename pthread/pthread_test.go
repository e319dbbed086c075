package pthread_test

import (
	"math"
	"math/rand"
	"reflect"
	"slices"
	"strings"
	"testing"

	"exegesis/api"
	"exegesis/asm"
	"exegesis/pthread"
)

func code(s string) []api.PInstr {
	p, line, e := asm.Parse("locs 4\nthread\n" + strings.ReplaceAll(s, "; ", "\n"))
	if e != api.OK {
		panic(line)
	}
	return p.Threads[0]
}

func pairs(v ...int) []api.Pair {
	var l []api.Pair
	for i := 0; i < len(v); i += 2 {
		l = append(l, api.Pair{A: v[i], B: v[i+1]})
	}
	return l
}

func regs(v ...int) []int { return append(v, make([]int, api.MaxRegs-len(v))...) }

func read(loc, v int, ex bool) api.Event {
	return api.Event{Kind: api.Read, Loc: loc, Value: v, Ex: ex}
}

func write(loc, v int, ex bool) api.Event {
	return api.Event{Kind: api.Write, Loc: loc, Value: v, Ex: ex}
}

func bar(mode int) api.Event { return api.Event{Kind: api.Bar, Mode: mode} }

func same(a, b pthread.Run) bool {
	return slices.Equal(a.Events, b.Events) && slices.Equal(a.Rmw, b.Rmw) && slices.Equal(a.Data, b.Data) && slices.Equal(a.Ctrl, b.Ctrl) && slices.Equal(a.CtrlI, b.CtrlI) && a.Used == b.Used && slices.Equal(a.Regs, b.Regs)
}

// P17.1
func TestDo(t *testing.T) {
	for _, x := range []struct {
		s     string
		reads []int
		run   pthread.Run
	}{
		{"", nil, pthread.Run{Regs: regs()}},
		{"ld r1 x; st y r1 1 +; lwsync; sync", []int{7}, pthread.Run{Events: []api.Event{read(0, 7, false), write(1, 8, false), bar(api.AcqRel), bar(api.SC)}, Data: pairs(0, 1), Used: 1, Regs: regs(0, 7)}},
		{"larx r1 z; stcx z r1 2 +", []int{-3}, pthread.Run{Events: []api.Event{read(2, -3, true), write(2, -1, true)}, Rmw: pairs(0, 1), Data: pairs(0, 1), Used: 1, Regs: regs(0, -3)}},
		{"larx r1 z; stcx z 5; larx r2 z; stcx z r1", []int{1, 2}, pthread.Run{Events: []api.Event{read(2, 1, true), write(2, 5, true), read(2, 2, true), write(2, 1, true)}, Rmw: pairs(0, 1, 2, 3), Data: pairs(0, 3), Used: 2, Regs: regs(0, 1, 2)}},
		{"ld r1 x; mov r2 r1 r1 -; mov r1 4; st y r2; st y r1", []int{9}, pthread.Run{Events: []api.Event{read(0, 9, false), write(1, 0, false), write(1, 4, false)}, Data: pairs(0, 1), Used: 1, Regs: regs(0, 4)}},
		{"ld r1 x; bc 1 r1; st y 1; st y 2", []int{0}, pthread.Run{Events: []api.Event{read(0, 0, false), write(1, 1, false), write(1, 2, false)}, Ctrl: pairs(0, 1, 0, 2), Used: 1}},
		{"ld r1 x; bc 1 r1; st y 1; st y 2", []int{3}, pthread.Run{Events: []api.Event{read(0, 3, false), write(1, 2, false)}, Ctrl: pairs(0, 1), Used: 1, Regs: regs(0, 3)}},
		{"ld r1 x; bc 0 r1; isync; ld r2 y", []int{1, 2}, pthread.Run{Events: []api.Event{read(0, 1, false), read(1, 2, false)}, Ctrl: pairs(0, 1), CtrlI: pairs(0, 1), Used: 2, Regs: regs(0, 1, 2)}},
		{"ld r1 x; isync; bc 0 r1; ld r2 y", []int{1, 2}, pthread.Run{Events: []api.Event{read(0, 1, false), read(1, 2, false)}, Ctrl: pairs(0, 1), Used: 2, Regs: regs(0, 1, 2)}},
		// What was settled stays so; what control hangs on since then is not.
		{"ld r1 x; bc 0 r1; isync; ld r2 y; bc 0 r2; st z 1; isync; st z 2", []int{1, 2}, pthread.Run{Events: []api.Event{read(0, 1, false), read(1, 2, false), write(2, 1, false), write(2, 2, false)}, Ctrl: pairs(0, 1, 0, 2, 0, 3, 1, 2, 1, 3), CtrlI: pairs(0, 1, 0, 2, 0, 3, 1, 3), Used: 2, Regs: regs(0, 1, 2)}},
		{"ld r1 x; bc 1 r1; isync; sync", []int{1}, pthread.Run{Events: []api.Event{read(0, 1, false), bar(api.SC)}, Ctrl: pairs(0, 1), Used: 1, Regs: regs(0, 1)}},
		{"ld r1 x; bc 1 r1; isync; sync", []int{0}, pthread.Run{Events: []api.Event{read(0, 0, false), bar(api.SC)}, Ctrl: pairs(0, 1), CtrlI: pairs(0, 1), Used: 1}},
		{"ld r0 x; bc 0 r0; st y r0", []int{4}, pthread.Run{Events: []api.Event{read(0, 4, false), write(1, 4, false)}, Data: pairs(0, 1), Ctrl: pairs(0, 1), Used: 1, Regs: regs(4)}},
		{"bc 2 1; ld r1 x; sync", nil, pthread.Run{}},
	} {
		if x.run.Regs == nil {
			x.run.Regs = regs()
		}
		run, ok := pthread.Do(code(x.s), x.reads)
		if !ok || !same(run, x.run) {
			t.Error(x.s, run, ok)
		}
		more, ok := pthread.Do(code(x.s), append(slices.Clone(x.reads), 5, 6))
		if !ok || !same(more, run) {
			t.Error(x.s, "more values")
		}
		if len(x.reads) > 0 {
			if run, ok := pthread.Do(code(x.s), x.reads[:len(x.reads)-1]); ok || !reflect.DeepEqual(run, pthread.Run{}) {
				t.Error(x.s, "fewer values", run)
			}
		}
	}
}

// P17.2
func TestWithin(t *testing.T) {
	rnd := rand.New(rand.NewSource(1))
	lines := []string{"ld r1 x", "ld r2 y", "st x r1", "isync", "isync", "bc 0 r1", "bc 1 r2", "bc 2 r3", "sync", "lwsync", "mov r3 r1 r2 +", "larx r1 x; stcx x r1 1 +"}
	some := 0
	for range 3000 {
		s := "isync"
		for range rnd.Intn(12) {
			s += "; " + lines[rnd.Intn(len(lines))]
		}
		run, ok := pthread.Do(code(s), []int{0, 1, 0, 0, 1, 1, 0, 1, 0, 0, 1, 1})
		for _, p := range run.CtrlI {
			if !slices.Contains(run.Ctrl, p) {
				t.Error(s)
			}
			some++
		}
		if !ok || !slices.IsSortedFunc(run.CtrlI, func(p, q api.Pair) int { return (p.A-q.A)*1000 + p.B - q.B }) {
			t.Error(s)
		}
	}
	if some < 100 {
		t.Error(some)
	}
}

// R1
func TestNone(t *testing.T) {
	rnd := rand.New(rand.NewSource(2))
	wild := []int{math.MinInt, -9, -1, 0, 1, 2, 3, 7, 8, 64, math.MaxInt}
	some := func() int { return wild[rnd.Intn(len(wild))] }
	for range 5000 {
		var l []api.PInstr
		for range rnd.Intn(6) {
			i := api.PInstr{Kind: rnd.Intn(12) - 1, Reg: some(), Loc: some(), N: some()}
			for range rnd.Intn(4) {
				i.E = append(i.E, api.Tok{Kind: rnd.Intn(5), V: some()})
			}
			l = append(l, i)
		}
		pthread.Do(l, []int{some(), some(), some()}[:rnd.Intn(4)])
	}
}
