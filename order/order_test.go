package order_test

import (
	"math"
	"slices"
	"testing"

	"exegesis/api"
	"exegesis/order"
	"exegesis/rel"
	"exegesis/sample"
)

func pairs(v ...int) []api.Pair {
	var l []api.Pair
	for i := 0; i < len(v); i += 2 {
		l = append(l, api.Pair{A: v[i], B: v[i+1]})
	}
	return l
}

func is(t *testing.T, what string, r *rel.Rel, n int, want ...int) {
	t.Helper()
	if r.Len() != n || !slices.Equal(r.Pairs(), pairs(want...)) {
		t.Error(what, r.Pairs(), want)
	}
}

// P11.1
func TestBob(t *testing.T) {
	// 2: x; 3: x rel; 4: y; 5: x.
	g := sample.Graph("locs 2; thread; store x rlx 1; store x rel 2; store y rlx 3; store x rlx 4", nil, []int{2, 3, 5}, []int{4})
	is(t, "a release", order.Bob(g), 6, 0, 3, 1, 3, 2, 3, 3, 5)
	// 1: read acq; 2: read; 3: write.
	g = sample.Graph("locs 1; thread; r1 = load x acq; r2 = load x rlx; store x rlx 1", []int{0, 0}, []int{3})
	is(t, "an acquire", order.Bob(g), 4, 1, 2, 1, 3)
	for _, mode := range []string{"acq", "rel", "acqrel", "sc"} {
		// 1: write; 2: bar; 3: read; 4: write of another thread.
		g = sample.Graph("locs 1; thread; store x rlx 1; fence "+mode+"; r1 = load x rlx; thread; store x rlx 2", []int{1}, []int{1, 4})
		is(t, mode, order.Bob(g), 5, 0, 2, 1, 2, 2, 3)
	}
	// 1, 2: faa of both modes; 3: read; 4: write.
	g = sample.Graph("locs 1; thread; r0 = faa x acq rel 1; r1 = load x rlx; store x rlx 1", []int{0, 2}, []int{2, 4})
	is(t, "a faa", order.Bob(g), 5, 0, 2, 1, 2, 1, 3, 1, 4, 2, 4)
}

// P11.1
func TestDeps(t *testing.T) {
	// 2: read x; 3: read y; 4: write x of r1; 5: write y, by control of r2; 6: bar.
	g := sample.Graph("locs 2; thread; r1 = load x rlx; r2 = load y rlx; store x rlx r1; skip 0 r2; store y rlx 1; fence sc", []int{0, 1}, []int{4}, []int{5})
	is(t, "data, control", order.Deps(g), 7, 2, 4, 3, 5, 3, 6)
	is(t, "ppo", order.Ppo(g), 7, 2, 4, 3, 5)
	// 2, 3: faa x; 4: read y; 5: write y.
	g = sample.Graph("locs 2; thread; r0 = faa x rlx rlx 1; r1 = load y rlx; store y rlx 1", []int{0, 1}, []int{3}, []int{5})
	is(t, "ex", order.Deps(g), 6, 2, 3, 2, 4, 2, 5)
	is(t, "ppo", order.Ppo(g), 6, 2, 3, 2, 5)
}

// P11.1
func TestPpo(t *testing.T) {
	// 3: read x; 4: write y of it; 5: read of 4; 6: write z of that.
	g := sample.Graph("locs 3; thread; r1 = load x rlx; store y rlx r1; r2 = load y rlx; store z rlx r2", []int{0, 4}, nil, []int{4}, []int{6})
	is(t, "by a read of its own", order.Ppo(g), 7, 3, 4, 3, 6, 5, 6)
	g = sample.Graph("locs 3; thread; r1 = load x rlx; store y rlx r1; r2 = load y rlx; store z rlx r2", []int{0, 1}, nil, []int{4}, []int{6})
	is(t, "not by another one", order.Ppo(g), 7, 3, 4, 5, 6)
	g = sample.Graph("locs 1; thread; r1 = load x rlx; store x rlx r1", []int{0}, []int{2})
	is(t, "a store behind a load of its value", order.Ppo(g), 3, 1, 2)
}

// P11.1
func TestDetour(t *testing.T) {
	// 1: write; 2: read of 3; 3: write of another thread.
	g := sample.Graph("locs 1; thread; store x rlx 1; r1 = load x rlx; thread; store x rlx 2", []int{3}, []int{1, 3})
	is(t, "by another thread", order.Detour(g), 4, 0, 2, 1, 2)
	g = sample.Graph("locs 1; thread; store x rlx 1; r1 = load x rlx; thread; store x rlx 2", []int{3}, []int{3, 1})
	is(t, "in another order", order.Detour(g), 4, 0, 2)
	g = sample.Graph("locs 1; thread; store x rlx 1; r1 = load x rlx; thread; store x rlx 2", []int{1}, []int{3, 1})
	is(t, "of its own", order.Detour(g), 4)
	// 1: write; 2: write of another thread; 3: read of 2, of a third thread.
	g = sample.Graph("locs 1; thread; store x rlx 1; thread; store x rlx 2; thread; r1 = load x rlx", []int{2}, []int{1, 2})
	is(t, "not within a thread", order.Detour(g), 4, 0, 3)
}

const buffers = "locs 2; thread; store x rlx 1; fence sc; r1 = load y rlx; thread; store y rlx 1; fence sc; r2 = load x rlx"

// P11.1: 2: x; 3: bar; 4: read y; 5: y; 6: bar; 7: read x.
func TestPsc(t *testing.T) {
	is(t, "both first", order.Psc(sample.Graph(buffers, []int{1, 0}, []int{2}, []int{5})), 8, 3, 6, 6, 3)
	is(t, "one first", order.Psc(sample.Graph(buffers, []int{1, 2}, []int{2}, []int{5})), 8, 3, 6)
	is(t, "none first", order.Psc(sample.Graph(buffers, []int{5, 2}, []int{2}, []int{5})), 8)
	g := sample.Graph("locs 2; thread; store x rlx 1; fence acqrel; r1 = load y rlx; thread; store y rlx 1; fence sc; r2 = load x rlx", []int{1, 0}, []int{2}, []int{5})
	is(t, "of one alone", order.Psc(g), 8)
}

// P11.1
func TestAr(t *testing.T) {
	is(t, "psc, bob", order.Ar(sample.Graph(buffers, []int{1, 0}, []int{2}, []int{5})), 8, 0, 3, 0, 6, 0, 7, 1, 3, 1, 4, 1, 6, 2, 3, 3, 4, 3, 6, 5, 6, 6, 3, 6, 7)
	// 1: write; 2: read of 3; 3: write of another thread: rfe and a detour.
	g := sample.Graph("locs 1; thread; store x rlx 1; r1 = load x rlx; thread; store x rlx 2", []int{3}, []int{1, 3})
	is(t, "detour, rfe", order.Ar(g), 4, 0, 2, 1, 2, 3, 2)
	g = sample.Graph("locs 2; thread; r1 = load x rlx; store y rlx r1; thread; r2 = load y rlx; store x rlx r2", []int{5, 3}, []int{5}, []int{3})
	if r := order.Ar(g); !r.Loops() || !r.Has(2, 3) || !r.Has(3, 4) {
		t.Error("ppo, rfe", r.Pairs())
	}
}

// P11.2
func TestMore(t *testing.T) {
	plain := sample.Graph("locs 2; thread; r1 = load x rlx; r2 = load y rlx; store y rlx 0", []int{0, 1}, nil, []int{4})
	more := sample.Graph("locs 2; thread; r1 = load x rlx; r2 = load y rlx; store y rlx r1", []int{0, 1}, nil, []int{4})
	most := sample.Graph("locs 2; thread; r1 = load x rlx; r2 = load y rlx; skip 0 r2; store y rlx r1", []int{0, 1}, nil, []int{4})
	for _, f := range []func(api.Graph) *rel.Rel{order.Deps, order.Ppo, order.Ar} {
		if !f(plain).In(f(more)) || !f(more).In(f(most)) || f(more).In(f(plain)) || f(most).In(f(more)) {
			t.Error(f(plain).Pairs(), f(more).Pairs(), f(most).Pairs())
		}
	}
}

// R1
func TestNone(t *testing.T) {
	for _, g := range []api.Graph{{}, {Locs: math.MaxInt, Events: make([]api.Event, 100), Rf: []int{5, -7}, Co: [][]int{{9, -9}}, Data: pairs(-1, 99, 0, 39, 39, 0)}} {
		for _, f := range []func(api.Graph) *rel.Rel{order.Bob, order.Deps, order.Ppo, order.Detour, order.Psc, order.Ar} {
			if f(g) == nil {
				t.Error("nil")
			}
		}
	}
}
