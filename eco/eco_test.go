package eco_test

import (
	"math"
	"slices"
	"testing"

	"exegesis/api"
	"exegesis/eco"
	"exegesis/rel"
	"exegesis/sample"
)

func pairs(v ...int) []api.Pair {
	var l []api.Pair
	for i := 0; i < len(v); i += 2 {
		l = append(l, api.Pair{A: v[i], B: v[i+1]})
	}
	return l
}

func is(t *testing.T, what string, r *rel.Rel, n int, want []api.Pair) {
	t.Helper()
	if r.Len() != n || !slices.Equal(r.Pairs(), want) {
		t.Error(what, r.Len(), r.Pairs(), want)
	}
}

// events 0, 1: first writes; 2: write x 1; 3: read y; 4: bar; 5, 6: faa x; 7: write y 2.
func two() api.Graph {
	return sample.Graph("locs 2; thread; store x rel 1; r1 = load y acq; fence sc; thread; r2 = faa x rlx rlx 2; store y rlx 2", []int{7, 2}, []int{2, 6}, []int{7})
}

// one thread: 1: write 1; 2: read of it; 3: read of the first write; 4: write 2; 5: read of 4.
func one() api.Graph {
	return sample.Graph("locs 1; thread; store x rlx 1; r1 = load x rlx; r2 = load x rlx; store x rlx 2; thread; r1 = load x rlx", []int{1, 0, 4}, []int{4, 1})
}

// P9.1
func TestRelations(t *testing.T) {
	g, h := two(), one()
	is(t, "rf", eco.Rf(g), 8, pairs(2, 5, 7, 3))
	is(t, "rf", eco.Rf(h), 6, pairs(0, 3, 1, 2, 4, 5))
	is(t, "co", eco.Co(g), 8, pairs(0, 2, 0, 6, 1, 7, 2, 6))
	is(t, "co", eco.Co(h), 6, pairs(0, 1, 0, 4, 4, 1))
	is(t, "fr", eco.Fr(g), 8, pairs(5, 6))
	is(t, "fr", eco.Fr(h), 6, pairs(3, 1, 3, 4, 5, 1))
	is(t, "eco", eco.Eco(g), 8, pairs(0, 2, 0, 5, 0, 6, 1, 3, 1, 7, 2, 5, 2, 6, 5, 6, 7, 3))
	is(t, "eco", eco.Eco(h), 6, pairs(0, 1, 0, 2, 0, 3, 0, 4, 0, 5, 1, 2, 3, 1, 3, 2, 3, 4, 3, 5, 4, 1, 4, 2, 4, 5, 5, 1, 5, 2))
	is(t, "loc", eco.Loc(g), 8, pairs(0, 2, 0, 5, 0, 6, 1, 3, 1, 7, 5, 6))
	is(t, "loc", eco.Loc(h), 6, pairs(0, 1, 0, 2, 0, 3, 0, 4, 0, 5, 1, 2, 1, 3, 1, 4, 2, 3, 2, 4, 3, 4))
	is(t, "inner rf", eco.Inner(h, eco.Rf(h)), 6, pairs(1, 2))
	is(t, "outer rf", eco.Outer(h, eco.Rf(h)), 6, pairs(0, 3, 4, 5))
	is(t, "inner co", eco.Inner(h, eco.Co(h)), 6, pairs(4, 1))
	is(t, "outer co", eco.Outer(h, eco.Co(h)), 6, pairs(0, 1, 0, 4))
}

// P9.1: the first writes are one thread; an event is of its own; r is turned by neither.
func TestInner(t *testing.T) {
	g := two()
	r := rel.New(8, pairs(0, 0, 0, 1, 1, 0, 0, 2, 2, 0, 2, 2, 2, 4, 4, 3, 4, 5, 7, 5))
	is(t, "inner", eco.Inner(g, r), 8, pairs(0, 0, 0, 1, 1, 0, 2, 2, 2, 4, 4, 3, 7, 5))
	is(t, "outer", eco.Outer(g, r), 8, pairs(0, 2, 2, 0, 4, 5))
	if len(r.Pairs()) != 10 {
		t.Error("turned")
	}
	far := rel.New(20, pairs(0, 1, 19, 19))
	is(t, "inner", eco.Inner(g, far), 20, pairs(0, 1))
	is(t, "outer", eco.Outer(g, far), 20, pairs(19, 19))
}

// P9.1: no events but the first writes.
func TestFirst(t *testing.T) {
	g := sample.Graph("locs 2; thread", nil)
	for _, r := range []*rel.Rel{eco.Rf(g), eco.Co(g), eco.Fr(g), eco.Eco(g), eco.Loc(g)} {
		is(t, "none", r, 2, nil)
	}
	g = sample.Graph("locs 1; thread; r1 = load x rlx", []int{0})
	is(t, "a read of a first write", eco.Outer(g, eco.Rf(g)), 2, pairs(0, 1))
	is(t, "a read of a first write", eco.Inner(g, eco.Rf(g)), 2, nil)
}

// P9.2
func TestOneLocation(t *testing.T) {
	for _, g := range []api.Graph{one(), two()} {
		for _, p := range eco.Eco(g).Pairs() {
			if g.Events[p.A].Loc != g.Events[p.B].Loc || g.Events[p.A].Kind == api.Bar || g.Events[p.B].Kind == api.Bar {
				t.Error(p)
			}
		}
	}
}

// R1: graphs that may not be: any answer, and an end.
func TestNone(t *testing.T) {
	long := make([]int, 1<<17)
	for _, g := range []api.Graph{{}, {Locs: math.MaxInt, Rf: []int{5, -7, math.MinInt}, Co: [][]int{{9, -9}, nil, long}}, {Events: make([]api.Event, 1<<17), Rf: long}} {
		for _, r := range []*rel.Rel{eco.Rf(g), eco.Co(g), eco.Fr(g), eco.Eco(g), eco.Loc(g), eco.Inner(g, rel.New(40, nil)), eco.Outer(g, rel.New(40, nil))} {
			if r == nil {
				t.Error(g.Locs)
			}
		}
	}
}
