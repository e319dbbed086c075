package power_test

import (
	"math"
	"slices"
	"testing"

	"exegesis/api"
	"exegesis/power"
	"exegesis/rel"
	"exegesis/sample"
)

func pairs(v ...int) []api.Pair {
	var l []api.Pair
	for i := 0; i < len(v); i += 2 {
		l = append(l, api.Pair{A: v[i], B: v[i+1]})
	}
	return l
}

func is(t *testing.T, what string, r *rel.Rel, want ...int) {
	t.Helper()
	if !slices.Equal(r.Pairs(), pairs(want...)) {
		t.Error(what, r.Pairs(), want)
	}
}

// P20.1
func TestFences(t *testing.T) {
	// 2: write x; 3: read y; 4: bar; 5: read y; 6: write x.
	for _, x := range []struct {
		fence        string
		sync, fences []int
	}{
		{"sync", []int{2, 5, 2, 6, 3, 5, 3, 6}, []int{2, 5, 2, 6, 3, 5, 3, 6}},
		{"lwsync", nil, []int{2, 6, 3, 5, 3, 6}},
		{"lwsync; sync", []int{2, 6, 2, 7, 3, 6, 3, 7}, []int{2, 6, 2, 7, 3, 6, 3, 7}},
		{"isync", nil, nil},
	} {
		g := sample.PGraph("locs 2; thread; st x 1; ld r1 y; "+x.fence+"; ld r2 y; st x 2", []int{1, 1}, sampleCo(x.fence))
		is(t, x.fence, power.Sync(g), x.sync...)
		is(t, x.fence, power.Fences(g), x.fences...)
		if power.Sync(g).Len() != len(g.Events) {
			t.Error("places")
		}
	}
	// 1: bar; 2: write; 3: bar: nothing is ahead, nothing behind.
	g := sample.PGraph("locs 1; thread; sync; st x 1; lwsync", nil, []int{2})
	is(t, "not of the first writes", power.Fences(g))
	is(t, "not of the first writes", power.Hb(g))
	is(t, "not of the first writes", power.Prop(g))
}

// sampleCo is the two writes of x, with so many fences between.
func sampleCo(fence string) []int {
	switch fence {
	case "lwsync; sync":
		return []int{2, 7}
	case "isync":
		return []int{2, 5}
	}
	return []int{2, 6}
}

// P20.1
func TestHbProp(t *testing.T) {
	// 2: x; 3: bar; 4: y; 5: read y; 6: read x.
	g := sample.PGraph("locs 2; thread; st x 1; lwsync; st y 1; thread; ld r1 y; ld r2 x", []int{4, 0}, []int{2}, []int{4})
	is(t, "hb", power.Hb(g), 0, 6, 2, 4, 4, 5)
	is(t, "prop", power.Prop(g), 2, 4)
	// The same with a Sync: also what is ahead of it by com, and what is behind it by hb.
	g = sample.PGraph("locs 2; thread; st x 1; sync; st y 1; thread; ld r1 y; ld r2 x", []int{4, 0}, []int{2}, []int{4})
	is(t, "hb", power.Hb(g), 0, 6, 2, 4, 4, 5)
	is(t, "prop", power.Prop(g), 0, 4, 0, 5, 2, 4, 2, 5, 6, 4, 6, 5)
	// 2: x; 3: read x; 4: bar; 5: y; 6: read y: rfe, then a fence.
	g = sample.PGraph("locs 2; thread; st x 1; thread; ld r1 x; lwsync; st y 1; thread; ld r1 y", []int{2, 5}, []int{2}, []int{5})
	is(t, "hb", power.Hb(g), 2, 3, 3, 5, 5, 6)
	is(t, "prop", power.Prop(g), 2, 5)
}

// P20.2: litmus tests. The threads of each are divided by bars, and what reads read from says which end it is.
func TestConsistent(t *testing.T) {
	for name, x := range map[string]struct {
		text string
		from []int
		co   [][]int
		ok   bool
	}{
		"nothing":         {"locs 1; thread", nil, nil, true},
		"mp":              {"locs 2; thread; st x 1; st y 1; thread; ld r1 y; ld r2 x", []int{3, 0}, [][]int{{2}, {3}}, true},
		"mp lwsync":       {"locs 2; thread; st x 1; lwsync; st y 1; thread; ld r1 y; ld r2 x", []int{4, 0}, [][]int{{2}, {4}}, true},
		"mp lwsync ctrl":  {"locs 2; thread; st x 1; lwsync; st y 1; thread; ld r1 y; bc 0 r1; ld r2 x", []int{4, 0}, [][]int{{2}, {4}}, true},
		"mp lwsync ctrli": {"locs 2; thread; st x 1; lwsync; st y 1; thread; ld r1 y; bc 0 r1; isync; ld r2 x", []int{4, 0}, [][]int{{2}, {4}}, false},
		"mp ctrli":        {"locs 2; thread; st x 1; st y 1; thread; ld r1 y; bc 0 r1; isync; ld r2 x", []int{3, 0}, [][]int{{2}, {3}}, true},
		"mp lwsyncs":      {"locs 2; thread; st x 1; lwsync; st y 1; thread; ld r1 y; lwsync; ld r2 x", []int{4, 0}, [][]int{{2}, {4}}, false},
		"sb":              {"locs 2; thread; st x 1; ld r1 y; thread; st y 1; ld r2 x", []int{1, 0}, [][]int{{2}, {4}}, true},
		"sb lwsyncs":      {"locs 2; thread; st x 1; lwsync; ld r1 y; thread; st y 1; lwsync; ld r2 x", []int{1, 0}, [][]int{{2}, {5}}, true},
		"sb sync lwsync":  {"locs 2; thread; st x 1; sync; ld r1 y; thread; st y 1; lwsync; ld r2 x", []int{1, 0}, [][]int{{2}, {5}}, true},
		"sb syncs":        {"locs 2; thread; st x 1; sync; ld r1 y; thread; st y 1; sync; ld r2 x", []int{1, 0}, [][]int{{2}, {5}}, false},
		"sb syncs, seen":  {"locs 2; thread; st x 1; sync; ld r1 y; thread; st y 1; sync; ld r2 x", []int{5, 0}, [][]int{{2}, {5}}, true},
		"lb":              {"locs 2; thread; ld r1 x; st y 1; thread; ld r2 y; st x 1", []int{5, 3}, [][]int{{5}, {3}}, true},
		"lb data":         {"locs 2; thread; ld r1 x; st y r1; thread; ld r2 y; st x r2", []int{5, 3}, [][]int{{5}, {3}}, false},
		"lb ctrl":         {"locs 2; thread; ld r1 x; bc 0 r1; st y 1; thread; ld r2 y; bc 0 r2; st x 1", []int{5, 3}, [][]int{{5}, {3}}, false},
		"lb ctrl, one":    {"locs 2; thread; ld r1 x; bc 0 r1; st y 1; thread; ld r2 y; st x 1", []int{5, 3}, [][]int{{5}, {3}}, true},
		"2+2w":            {"locs 2; thread; st x 1; st y 2; thread; st y 1; st x 2", nil, [][]int{{5, 2}, {3, 4}}, true},
		"2+2w lwsyncs":    {"locs 2; thread; st x 1; lwsync; st y 2; thread; st y 1; lwsync; st x 2", nil, [][]int{{7, 2}, {4, 5}}, false},
		"wrc":             {"locs 2; thread; st x 1; thread; ld r1 x; st y r1; thread; ld r2 y; bc 0 r2; isync; ld r3 x", []int{2, 4, 0}, [][]int{{2}, {4}}, true},
		"wrc lwsync":      {"locs 2; thread; st x 1; thread; ld r1 x; lwsync; st y r1; thread; ld r2 y; bc 0 r2; isync; ld r3 x", []int{2, 5, 0}, [][]int{{2}, {5}}, false},
		"iriw lwsyncs":    {"locs 2; thread; st x 1; thread; st y 1; thread; ld r1 x; lwsync; ld r2 y; thread; ld r1 y; lwsync; ld r2 x", []int{2, 1, 3, 0}, [][]int{{2}, {3}}, true},
		"iriw syncs":      {"locs 2; thread; st x 1; thread; st y 1; thread; ld r1 x; sync; ld r2 y; thread; ld r1 y; sync; ld r2 x", []int{2, 1, 3, 0}, [][]int{{2}, {3}}, false},
		"coherence":       {"locs 1; thread; st x 1; ld r1 x", []int{0}, [][]int{{1}}, false},
		"reads turned":    {"locs 1; thread; st x 1; thread; ld r1 x; ld r2 x", []int{1, 0}, [][]int{{1}}, false},
		"writes turned":   {"locs 1; thread; st x 1; st x 2", nil, [][]int{{2, 1}}, false},
		"from behind":     {"locs 1; thread; ld r1 x; st x 1", []int{2}, [][]int{{2}}, false},
		"two adds":        {"locs 1; thread; larx r1 x; stcx x r1 1 +; thread; larx r1 x; stcx x r1 1 +", []int{0, 2}, [][]int{{2, 4}}, true},
		"two adds of one": {"locs 1; thread; larx r1 x; stcx x r1 1 +; thread; larx r1 x; stcx x r1 1 +", []int{0, 0}, [][]int{{2, 4}}, false},
		"a write between": {"locs 1; thread; larx r1 x; stcx x r1 1 +; thread; st x 7", []int{0}, [][]int{{3, 2}}, false},
		"a write ahead":   {"locs 1; thread; larx r1 x; stcx x r1 1 +; thread; st x 7", []int{3}, [][]int{{3, 2}}, true},
		"s lwsync data":   {"locs 2; thread; st x 2; lwsync; st y 1; thread; ld r1 y; st x r1", []int{4}, [][]int{{6, 2}, {4}}, false},
		"r lwsync sync":   {"locs 2; thread; st x 1; lwsync; st y 1; thread; st y 2; sync; ld r1 x", []int{0}, [][]int{{2}, {4, 5}}, true},
		"r syncs":         {"locs 2; thread; st x 1; sync; st y 1; thread; st y 2; sync; ld r1 x", []int{0}, [][]int{{2}, {4, 5}}, false},
	} {
		g := sample.PGraph(x.text, x.from, x.co...)
		if power.Consistent(g) != x.ok {
			t.Error(name, !x.ok)
		}
	}
}

// P20.2, R1: a graph that is none may not be.
func TestNone(t *testing.T) {
	g := sample.PGraph("locs 1; thread; st x 1; ld r1 x", []int{1}, []int{1})
	g.Events[2].Value = 2
	if power.Consistent(g) {
		t.Error("another value")
	}
	for _, g := range []api.Graph{{}, {Locs: math.MaxInt, Events: make([]api.Event, 100), Rf: []int{5, -7}, Co: [][]int{{9, -9}}, Data: pairs(-1, 99, 0, 39, 39, 0), Rmw: pairs(7, 3)}} {
		if power.Consistent(g) || power.Sync(g) == nil || power.Fences(g) == nil || power.Hb(g) == nil || power.Prop(g) == nil {
			t.Error(g.Locs)
		}
	}
}
