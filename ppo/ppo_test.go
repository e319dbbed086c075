package ppo_test

import (
	"math"
	"math/rand"
	"slices"
	"testing"

	"exegesis/api"
	"exegesis/calc"
	"exegesis/eco"
	"exegesis/graph"
	"exegesis/pgraph"
	"exegesis/ppo"
	"exegesis/rel"
	"exegesis/sample"
)

func pairs(v ...int) []api.Pair {
	var l []api.Pair
	for i := 0; i < len(v); i += 2 {
		l = append(l, api.Pair{A: v[i], B: v[i+1]})
	}
	return l
}

func is(t *testing.T, what string, r *rel.Rel, want ...int) {
	t.Helper()
	if !slices.Equal(r.Pairs(), pairs(want...)) {
		t.Error(what, r.Pairs(), want)
	}
}

// P19.1
func TestRdw(t *testing.T) {
	// 1, 2: reads; 3: write of another thread.
	text := "locs 1; thread; ld r1 x; ld r2 x; thread; st x 1"
	g := sample.PGraph(text, []int{0, 3}, []int{3})
	is(t, "old, new", ppo.Rdw(g), 1, 2)
	is(t, "old, new: ppo", ppo.Ppo(g), 1, 2)
	is(t, "no detour", ppo.Detour(g))
	is(t, "both old", ppo.Rdw(sample.PGraph(text, []int{0, 0}, []int{3})))
	is(t, "both new", ppo.Rdw(sample.PGraph(text, []int{3, 3}, []int{3})))
	is(t, "new, old", ppo.Rdw(sample.PGraph(text, []int{3, 0}, []int{3})))
	// The write is of the thread itself.
	g = sample.PGraph("locs 1; thread; ld r1 x; st x 1; ld r2 x", []int{0, 2}, []int{2})
	is(t, "of its own", ppo.Rdw(g))
	if ppo.Rdw(g).Len() != 4 {
		t.Error("places")
	}
}

// P19.1
func TestDetour(t *testing.T) {
	// 1: write; 2: read; 3: write of another thread.
	text := "locs 1; thread; st x 1; ld r2 x; thread; st x 2"
	is(t, "by another thread", ppo.Detour(sample.PGraph(text, []int{3}, []int{1, 3})), 1, 2)
	is(t, "in another order", ppo.Detour(sample.PGraph(text, []int{3}, []int{3, 1})))
	is(t, "of its own", ppo.Detour(sample.PGraph(text, []int{1}, []int{1, 3})))
	is(t, "not of the first writes", ppo.Detour(sample.PGraph("locs 1; thread; ld r1 x; thread; st x 1", []int{2}, []int{2})))
}

// P19.1
func TestParts(t *testing.T) {
	// 2: read x; 3: write y of it.
	g := sample.PGraph("locs 2; thread; ld r1 x; st y r1", []int{0}, nil, []int{3})
	ii, ic, ci, cc := ppo.Parts(g)
	is(t, "data: ii", ii, 2, 3)
	is(t, "data: ic", ic, 2, 3)
	is(t, "data: ci", ci)
	is(t, "data: cc", cc, 2, 3)
	is(t, "a write behind a read whose value it stores", ppo.Ppo(g), 2, 3)
	// 2: read x; 3: bar; 4: read y; 5: write y, by control.
	g = sample.PGraph("locs 2; thread; ld r1 x; bc 0 r1; lwsync; ld r2 y; st y 1", []int{0, 1}, nil, []int{5})
	ii, ic, ci, cc = ppo.Parts(g)
	is(t, "ctrl: ii", ii)
	is(t, "ctrl: ic", ic, 2, 4, 2, 5, 4, 5)
	is(t, "ctrl: ci", ci)
	is(t, "ctrl: cc", cc, 2, 4, 2, 5, 4, 5)
	is(t, "ctrl: ppo", ppo.Ppo(g), 2, 5, 4, 5)
	// 2: read x; 3: bar; 4: read y: by control with an isync.
	g = sample.PGraph("locs 2; thread; ld r1 x; bc 0 r1; isync; lwsync; ld r2 y", []int{0, 1})
	ii, ic, ci, cc = ppo.Parts(g)
	is(t, "ctrli: ii", ii, 2, 4)
	is(t, "ctrli: ic", ic, 2, 4)
	is(t, "ctrli: ci", ci, 2, 4)
	is(t, "ctrli: cc", cc, 2, 4)
	is(t, "ctrli: ppo", ppo.Ppo(g), 2, 4)
	// 3: read x; 4: write y of it; 5: read of 4; 6: read z.
	g = sample.PGraph("locs 3; thread; ld r1 x; st y r1; ld r2 y; bc 0 r2; isync; ld r3 z", []int{0, 4, 2}, nil, []int{4})
	is(t, "data, rfi, ctrli", ppo.Ppo(g), 3, 4, 3, 5, 3, 6, 5, 6)
	// The same, by control alone.
	g = sample.PGraph("locs 3; thread; ld r1 x; st y r1; ld r2 y; bc 0 r2; ld r3 z", []int{0, 4, 2}, nil, []int{4})
	is(t, "data, rfi", ppo.Ppo(g), 3, 4, 3, 5)
	// 3: read x; 4: write y, by control; 5: read of 4; 6: write z of that.
	g = sample.PGraph("locs 3; thread; ld r1 x; bc 0 r1; st y 1; ld r2 y; st z r2", []int{0, 4}, nil, []int{4}, []int{6})
	is(t, "ctrl, rfi, data", ppo.Ppo(g), 3, 4, 3, 6, 5, 6)
	// Two reads of two locations are in no order.
	g = sample.PGraph("locs 2; thread; ld r1 x; ld r2 y", []int{0, 1})
	is(t, "nothing", ppo.Ppo(g))
	// A read, then a write of one location.
	g = sample.PGraph("locs 1; thread; ld r1 x; st x 1", []int{0}, []int{2})
	is(t, "ploc", ppo.Ppo(g), 1, 2)
	g = sample.PGraph("locs 1; thread; larx r1 x; stcx x r1 1 +", []int{0}, []int{2})
	is(t, "rmw", ppo.Ppo(g), 1, 2)
}

// P19.1: the four hold what the chapter says, and nothing could be left out; P19.2.
func TestLeast(t *testing.T) {
	rnd := rand.New(rand.NewSource(1))
	lines := []string{"ld r1 x", "ld r2 y", "ld r1 x; bc 0 r1; isync", "st x 1", "st y r1", "st x r1 r2 +", "larx r1 x; stcx x r1 1 +", "sync", "lwsync", "bc 0 r1", "bc 0 r2", "isync"}
	some := 0
	for range 300 {
		s := "locs 2"
		for range 2 {
			s += "; thread"
			for range 1 + rnd.Intn(3) {
				s += "; " + lines[rnd.Intn(len(lines))]
			}
		}
		all, _ := pgraph.All(sample.Power(s), []int{0, 1, 2})
		for _, g := range all[:min(len(all), 8)] {
			checkParts(t, s, g)
			some++
			po := calc.Within(g)
			ahead := calc.Events(g, api.Read).Then(po).And(eco.Rf(g).Back())
			if len(ahead.Pairs()) == 0 && !ppo.Ppo(g).In(po) {
				t.Error(s, "not within the thread's order")
			}
		}
	}
	if some < 500 {
		t.Error(some)
	}
}

// checkParts goes one step from nothing again and again, one pair at a time.
func checkParts(t *testing.T, s string, g api.Graph) {
	m := calc.Accesses(g)
	data, ctrl, ctrli := graph.Of(g, g.Data), graph.Of(g, g.Ctrl).Then(m), graph.Of(g, g.CtrlI).Then(m)
	none := graph.Of(g, nil)
	ii, ic, ci, cc := none, none, none, none
	for range 40 {
		ii = calc.Or(data, ppo.Rdw(g), eco.Inner(g, eco.Rf(g)), ci, ic.Then(ci), ii.Then(ii))
		ic = calc.Or(ii, cc, ic.Then(cc), ii.Then(ic))
		ci = calc.Or(ctrli, ppo.Detour(g), ci.Then(ii), cc.Then(ci))
		cc = calc.Or(data, calc.WithinLoc(g), ctrl, ci, ci.Then(ic), cc.Then(cc))
	}
	a, b, c, d := ppo.Parts(g)
	for i, x := range [][2]*rel.Rel{{ii, a}, {ic, b}, {ci, c}, {cc, d}} {
		if !slices.Equal(x[0].Pairs(), x[1].Pairs()) {
			t.Error(s, i)
		}
	}
}

// R1
func TestNone(t *testing.T) {
	for _, g := range []api.Graph{{}, {Locs: math.MaxInt, Events: make([]api.Event, 100), Rf: []int{5, -7}, Co: [][]int{{9, -9}}, Data: pairs(-1, 99, 0, 39, 39, 0), CtrlI: pairs(3, 2, 2, 3)}} {
		if ppo.Rdw(g) == nil || ppo.Detour(g) == nil || ppo.Ppo(g) == nil {
			t.Error("nil")
		}
		ppo.Parts(g)
	}
}
