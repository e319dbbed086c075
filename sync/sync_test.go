package sync_test

import (
	"math"
	"slices"
	"strings"
	"testing"

	"exegesis/api"
	"exegesis/graph"
	"exegesis/rel"
	"exegesis/sample"
	"exegesis/sync"
)

func pairs(v ...int) []api.Pair {
	var l []api.Pair
	for i := 0; i < len(v); i += 2 {
		l = append(l, api.Pair{A: v[i], B: v[i+1]})
	}
	return l
}

func is(t *testing.T, what string, r *rel.Rel, want ...int) {
	t.Helper()
	if !slices.Equal(r.Pairs(), pairs(want...)) {
		t.Error(what, r.Pairs(), want)
	}
}

// P10.1: a release write, an acquire read of it. 2: x; 3: y rel; 4: read y acq; 5: read x.
func TestMessage(t *testing.T) {
	g := sample.Graph("locs 2; thread; store x rlx 1; store y rel 1; thread; r1 = load y acq; r2 = load x rlx", []int{3, 0}, []int{2}, []int{3})
	is(t, "rs", sync.Rs(g), 0, 0, 0, 2, 1, 1, 1, 3, 2, 2, 3, 3)
	is(t, "release", sync.Release(g), 3, 3)
	is(t, "sw", sync.Sw(g), 3, 4)
	is(t, "hb", sync.Hb(g), 0, 2, 0, 3, 0, 4, 0, 5, 1, 2, 1, 3, 1, 4, 1, 5, 2, 3, 2, 4, 2, 5, 3, 4, 3, 5, 4, 5)
	if sync.Sw(g).Len() != 6 || sync.Rs(g).Len() != 6 {
		t.Error("places")
	}
	for _, text := range []string{"store x rlx 1; store y rlx 1; thread; r1 = load y acq; r2 = load x rlx", "store x rlx 1; store y rel 1; thread; r1 = load y rlx; r2 = load x rlx"} {
		if h := sample.Graph("locs 2; thread; "+text, []int{3, 0}, []int{2}, []int{3}); len(sync.Sw(h).Pairs()) != 0 || len(sync.Hb(h).Pairs()) != len(graph.Po(h).Pairs()) {
			t.Error(text, sync.Sw(h).Pairs())
		}
	}
}

// P10.1: fences of each mode. 2: x; 3: bar; 4: y; 5: read y; 6: bar; 7: read x.
func TestFences(t *testing.T) {
	for _, x := range []struct {
		first, second string
		sw            bool
	}{{"rel", "acq", true}, {"acqrel", "acqrel", true}, {"sc", "sc", true}, {"rel", "sc", true}, {"acq", "acq", false}, {"rel", "rel", false}, {"acqrel", "acq", true}, {"acq", "sc", false}} {
		text := strings.NewReplacer("A", x.first, "B", x.second).Replace("locs 2; thread; store x rlx 1; fence A; store y rlx 1; thread; r1 = load y rlx; fence B; r2 = load x rlx")
		g := sample.Graph(text, []int{4, 0}, []int{2}, []int{4})
		if x.first == "acq" {
			is(t, "release", sync.Release(g))
		} else {
			is(t, "release", sync.Release(g), 3, 4)
		}
		if x.sw {
			is(t, text, sync.Sw(g), 3, 6)
		} else {
			is(t, text, sync.Sw(g))
		}
		if sync.Hb(g).Has(2, 7) != x.sw || !sync.Hb(g).Has(2, 4) || sync.Hb(g).Has(4, 5) {
			t.Error(text)
		}
	}
}

// P10.1: a fence and a release write are told by what comes behind them of the location.
func TestSequences(t *testing.T) {
	// 1: x rel; 2: x; 3: x of another thread; 4: read of 2.
	g := sample.Graph("locs 1; thread; store x rel 1; store x rlx 2; thread; store x rlx 3; thread; r1 = load x acq", []int{2}, []int{1, 2, 3})
	is(t, "rs", sync.Rs(g), 0, 0, 0, 1, 0, 2, 0, 3, 1, 1, 1, 2, 2, 2, 3, 3)
	is(t, "sw", sync.Sw(g), 1, 4)
	// 1: x rel; 2, 3: faa; 4: read of 3.
	g = sample.Graph("locs 1; thread; store x rel 1; thread; r0 = faa x rlx rlx 1; thread; r1 = load x acq", []int{1, 3}, []int{1, 3})
	is(t, "rs", sync.Rs(g), 0, 0, 0, 1, 0, 3, 1, 1, 1, 3, 3, 3)
	is(t, "release", sync.Release(g), 1, 1, 1, 3)
	is(t, "sw", sync.Sw(g), 1, 4)
	// 1: x rel; 2, 3 and 4, 5: faa one behind the other; 6: read of 5.
	g = sample.Graph("locs 1; thread; store x rel 1; thread; r0 = faa x acq rlx 1; thread; r0 = faa x rlx rlx 1; thread; r1 = load x acq", []int{1, 3, 5}, []int{1, 3, 5})
	is(t, "release", sync.Release(g), 1, 1, 1, 3, 1, 5)
	is(t, "sw", sync.Sw(g), 1, 2, 1, 6)
	// 1: x rel; 2: x; 3, 4: faa of 2; 5: read of 4.
	g = sample.Graph("locs 1; thread; store x rel 1; store x rlx 2; thread; r0 = faa x rlx rlx 1; thread; r1 = load x acq", []int{2, 4}, []int{1, 2, 4})
	is(t, "release", sync.Release(g), 1, 1, 1, 2, 1, 4)
	is(t, "sw", sync.Sw(g), 1, 5)
	// A faa of modes both acquires and releases: 2, 3 and 4, 5.
	g = sample.Graph("locs 2; thread; r0 = faa x rlx rel 1; thread; r0 = faa x acq rlx 1", []int{0, 3}, []int{3, 5})
	is(t, "release", sync.Release(g), 3, 3, 3, 5)
	is(t, "sw", sync.Sw(g), 3, 4)
}

// P10.1: what a thread reads of its own.
func TestInner(t *testing.T) {
	// 1: bar; 2: x; 3: read of 2; 4: bar.
	g := sample.Graph("locs 1; thread; fence rel; store x rlx 1; r1 = load x acq; fence acq", []int{2}, []int{2})
	is(t, "release", sync.Release(g), 1, 2)
	is(t, "sw", sync.Sw(g), 1, 3, 1, 4)
	// 1: x rel; 2: read of 3, another thread's.
	g = sample.Graph("locs 1; thread; store x rel 1; r1 = load x acq; thread; store x rlx 2", []int{3}, []int{1, 3})
	is(t, "sw", sync.Sw(g))
}

// P10.2
func TestWithoutModes(t *testing.T) {
	g := sample.Graph("locs 2; thread; store x rlx 1; r1 = load y rlx; store x rlx r1; thread; r0 = faa x rlx rlx 1; store y rlx r0", []int{7, 4}, []int{2, 4, 6}, []int{7})
	if !slices.Equal(sync.Hb(g).Pairs(), graph.Po(g).Pairs()) || len(sync.Sw(g).Pairs()) != 0 {
		t.Error(sync.Hb(g).Pairs())
	}
}

// R1
func TestNone(t *testing.T) {
	for _, g := range []api.Graph{{}, {Locs: math.MaxInt, Events: make([]api.Event, 100), Rf: []int{5, -7}, Co: [][]int{{9, -9}}, Rmw: pairs(-1, 99, 0, 39, 39, 0)}} {
		for _, r := range []*rel.Rel{sync.Rs(g), sync.Release(g), sync.Sw(g), sync.Hb(g)} {
			if r == nil {
				t.Error("nil")
			}
		}
	}
}
