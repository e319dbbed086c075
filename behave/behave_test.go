package behave_test

import (
	"math"
	"slices"
	"testing"

	"exegesis/api"
	"exegesis/behave"
	"exegesis/mem"
	"exegesis/sample"
)

// P14.1: programs, and what is there in the end. What a thread has read is stored at its end.
func TestOf(t *testing.T) {
	for name, x := range map[string]struct {
		text   string
		domain []int
		want   [][]int
	}{
		"nothing":       {"locs 2; thread", nil, [][]int{{0, 0}}},
		"a store":       {"locs 1; thread; store x rlx 1", []int{0, 1}, [][]int{{1}}},
		"no domain":     {"locs 1; thread; r1 = load x rlx", nil, nil},
		"two stores":    {"locs 1; thread; store x rlx 1; store x rlx 2", []int{0}, [][]int{{2}}},
		"two threads":   {"locs 1; thread; store x rlx 2; thread; store x rlx 1", []int{0}, [][]int{{1}, {2}}},
		"two adds":      {"locs 1; thread; r1 = faa x rlx rlx 1; thread; r1 = faa x rlx rlx 1", []int{0, 1, 2}, [][]int{{2}}},
		"mp":            {"locs 3; thread; store x rlx 1; store y rlx 1; thread; r1 = load y rlx; r2 = load x rlx; store z rlx r1 2 * r2 +", []int{0, 1}, [][]int{{1, 1, 0}, {1, 1, 1}, {1, 1, 2}, {1, 1, 3}}},
		"mp, modes":     {"locs 3; thread; store x rlx 1; store y rel 1; thread; r1 = load y acq; r2 = load x rlx; store z rlx r1 2 * r2 +", []int{0, 1}, [][]int{{1, 1, 0}, {1, 1, 1}, {1, 1, 3}}},
		"out of domain": {"locs 1; thread; store x rlx 5; r1 = load x rlx; store x rlx r1 1 +", []int{0, 1}, nil},
		"sb":            {"locs 3; thread; store x rlx 1; r1 = load y rlx; thread; store y rlx 1; r2 = load x rlx; skip 1 r2; store z rlx 5; thread; r1 = load z rlx", []int{0, 1, 5}, [][]int{{1, 1, 0}, {1, 1, 5}}},
		"lb":            {"locs 2; thread; r1 = load x rlx; store y rlx r1 1 +; thread; r2 = load y rlx; store x rlx 1", []int{0, 1, 2}, [][]int{{1, 1}, {1, 2}}},
	} {
		l, e := behave.Of(sample.Program(x.text), x.domain)
		if e != api.OK || !slices.EqualFunc(l, x.want, slices.Equal) {
			t.Error(name, l, e)
		}
	}
}

// P14.1
func TestErrors(t *testing.T) {
	for _, p := range []api.Prog{{}, {Locs: math.MaxInt}, {Locs: 1, Threads: make([][]api.Instr, 5)}} {
		if l, e := behave.Of(p, []int{0}); e != api.ErrForm || len(l) != 0 {
			t.Error(p, l, e)
		}
	}
	if l, e := behave.Of(sample.Program("locs 1; thread; store x rlx 1; store x rlx 1; store x rlx 1; store x rlx 1; store x rlx 1; store x rlx 1; store x rlx 1; store x rlx 1"), nil); e != api.ErrBig || len(l) != 0 {
		t.Error(l, e)
	}
}

// P14.2: more order, no more ends.
func TestLess(t *testing.T) {
	for _, x := range []struct{ plain, strong string }{
		{"locs 2; thread; store x rlx 1; r1 = load y rlx; store x rlx r1 2 +; thread; store y rlx 1; r1 = load x rlx; store y rlx r1 2 +", "locs 2; thread; store x rlx 1; fence sc; r1 = load y rlx; store x rlx r1 2 +; thread; store y rlx 1; fence sc; r1 = load x rlx; store y rlx r1 2 +"},
		{"locs 2; thread; r1 = load x rlx; store y rlx 1; thread; r1 = load y rlx; store x rlx r1", "locs 2; thread; r1 = load x acq; store y rlx 1; thread; r1 = load y acq; store x rlx r1"},
		{"locs 2; thread; r1 = load x rlx; store y rlx 1; store x rlx r1 1 +; thread; r1 = load y rlx; store x rlx r1", "locs 2; thread; r1 = load x acq; store y rel 1; store x rel r1 1 +; thread; r1 = load y rlx; store x rlx r1"},
	} {
		a, e := behave.Of(sample.Program(x.plain), []int{0, 1, 2, 3})
		b, f := behave.Of(sample.Program(x.strong), []int{0, 1, 2, 3})
		if e != api.OK || f != api.OK || !mem.In(b, a) || len(b) == 0 {
			t.Error(x.plain, a, b)
		}
		if !slices.EqualFunc(mem.Sort(a), a, slices.Equal) {
			t.Error("not in order", a)
		}
	}
}
