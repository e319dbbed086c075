package lift_test

import (
	"math"
	"math/rand"
	"reflect"
	"slices"
	"testing"

	"exegesis/api"
	"exegesis/gen"
	"exegesis/graph"
	"exegesis/imm"
	"exegesis/lang"
	"exegesis/lift"
	"exegesis/lower"
	"exegesis/mem"
	"exegesis/pgraph"
	"exegesis/power"
	"exegesis/sample"
	"exegesis/sound"
)

// P21.1
func TestLift(t *testing.T) {
	text := "locs 2; thread; r1 = load y acq; fence sc; store x rel r1; thread; r2 = faa x acq rel 1; skip 1 r2; store y rel 3"
	// 2: y; 3: bar; 4: bar; 5: x; and 6: bar; 7, 8: faa; 9: bar; 10: y.
	g := sample.PGraph("locs 2; thread; ld r1 y; bc 0 r1; isync; sync; lwsync; st x r1; thread; lwsync; larx r2 x; stcx x r2 1 +; bc 0 r2; isync; bc 2 r2; lwsync; st y 3", []int{10, 0}, []int{8, 5}, []int{10})
	// 2: y; 3: bar; 4: x; and 5, 6: faa; 7: y.
	want := sample.Graph(text, []int{7, 0}, []int{6, 4}, []int{7})
	h, e := lift.Lift(sample.Program(text), g)
	if e != api.OK || !graph.Same(h, want) {
		t.Error(h, e)
	}
	for name, x := range map[string]struct {
		turn func(g *api.Graph)
		e    api.Errno
	}{
		"no graph":         {func(g *api.Graph) { g.Rf[2] = 1 }, api.ErrGraph},
		"without a fence":  {func(g *api.Graph) { g.Events[3].Mode = api.AcqRel }, api.ErrGen},
		"without a ctrli":  {func(g *api.Graph) { g.CtrlI = nil }, api.ErrGen},
		"with other modes": {func(g *api.Graph) { g.Events[2].Mode = api.Acq }, api.ErrGen},
		"the first writes": {func(g *api.Graph) {
			*g = api.Graph{Locs: 2, Events: g.Events[:2], Rf: g.Rf[:2], Co: [][]int{{0}, {1}}}
		}, api.ErrGen},
	} {
		g := sample.PGraph("locs 2; thread; ld r1 y; bc 0 r1; isync; sync; lwsync; st x r1; thread; lwsync; larx r2 x; stcx x r2 1 +; bc 0 r2; isync; bc 2 r2; lwsync; st y 3", []int{10, 0}, []int{8, 5}, []int{10})
		x.turn(&g)
		if h, e := lift.Lift(sample.Program(text), g); e != x.e || !reflect.DeepEqual(h, api.Graph{}) {
			t.Error(name, h, e)
		}
	}
	first := sample.PGraph("locs 3; thread", nil)
	if h, e := lift.Lift(sample.Program("locs 3; thread; thread"), first); e != api.OK || !graph.Same(h, first) {
		t.Error("an empty program", h, e)
	}
}

// P21.1
func TestErrors(t *testing.T) {
	for _, x := range []struct {
		p api.Prog
		e api.Errno
	}{{api.Prog{}, api.ErrForm}, {api.Prog{Locs: math.MaxInt}, api.ErrForm}, {api.Prog{Locs: 1, Threads: make([][]api.Instr, 5)}, api.ErrBig}, {sample.Program("locs 1; thread"), api.ErrGraph}} {
		if h, e := lift.Lift(x.p, api.Graph{}); e != x.e || !reflect.DeepEqual(h, api.Graph{}) {
			t.Error(x, h, e)
		}
	}
}

// P21.2, P20.3, P16.2, T3: of programs at random, each execution of the code that may be.
func TestTheorem(t *testing.T) {
	rnd := rand.New(rand.NewSource(1))
	lines := []string{
		"r1 = load x rlx", "r2 = load y rlx", "r1 = load x acq", "r2 = load y acq", "store x rlx 1", "store y rlx 1", "store x rel 2", "store y rel 2", "store x rlx r2", "store y rlx r1", "store y rel r1",
		"fence acq", "fence rel", "fence acqrel", "fence sc", "fence sc", "r1 = faa x rlx rlx 1", "r2 = faa x rlx rlx r1", "r2 = faa y acq rel 1", "r1 = faa x rlx rel 1", "skip 1 r1", "skip 0 r2",
	}
	may, not := 0, 0
	for range 1000 {
		p := api.Prog{Locs: 2, Threads: make([][]api.Instr, 2+rnd.Intn(2))}
		for range 3 + rnd.Intn(5) {
			at := rnd.Intn(len(p.Threads))
			i, _ := lang.ParseLine(lines[rnd.Intn(len(lines))])
			p.Threads[at] = append(p.Threads[at], i)
		}
		if sound.Check(p) != api.OK {
			continue
		}
		code, _ := lower.Lower(p)
		all, _ := pgraph.All(code, []int{0, 1, 2})
		for i := 0; i < len(all); i += 1 + len(all)/150 {
			g := all[i]
			h, e := lift.Lift(p, g)
			if e != api.OK || gen.Generated(p, h) != api.OK || !slices.Equal(mem.Final(g), mem.Final(h)) {
				t.Fatal(lang.Text(p), g, h, e)
			}
			if !power.Consistent(g) {
				not++
				continue
			}
			may++
			if !imm.Consistent(h) {
				t.Fatal(lang.Text(p), g, h)
			}
		}
	}
	if may < 2000 || not < 5000 {
		t.Error(may, not)
	}
}
