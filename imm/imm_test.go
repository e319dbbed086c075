package imm_test

import (
	"math"
	"testing"

	"exegesis/api"
	"exegesis/imm"
	"exegesis/sample"
)

// P12.1: graphs, and which conditions hold.
func TestConditions(t *testing.T) {
	mp := func(store, load, between, behind string) string {
		return "locs 2; thread; store x rlx 1; " + between + "store y " + store + " 1; thread; r1 = load y " + load + "; " + behind + "r2 = load x rlx"
	}
	sb := func(fence string) string {
		return "locs 2; thread; store x rlx 1; " + fence + "r1 = load y rlx; thread; store y rlx 1; " + fence + "r2 = load x rlx"
	}
	for name, x := range map[string]struct {
		g                         api.Graph
		coherent, atomic, ordered bool
	}{
		"nothing":                  {sample.Graph("locs 1; thread", nil), true, true, true},
		"mp":                       {sample.Graph(mp("rlx", "rlx", "", ""), []int{3, 0}, []int{2}, []int{3}), true, true, true},
		"mp release":               {sample.Graph(mp("rel", "rlx", "", ""), []int{3, 0}, []int{2}, []int{3}), true, true, true},
		"mp release acquire":       {sample.Graph(mp("rel", "acq", "", ""), []int{3, 0}, []int{2}, []int{3}), false, true, true},
		"mp release acquire, seen": {sample.Graph(mp("rel", "acq", "", ""), []int{3, 2}, []int{2}, []int{3}), true, true, true},
		"mp fences":                {sample.Graph(mp("rlx", "rlx", "fence rel; ", "fence acq; "), []int{4, 0}, []int{2}, []int{4}), false, true, true},
		"mp fences acq":            {sample.Graph(mp("rlx", "rlx", "fence acq; ", "fence acq; "), []int{4, 0}, []int{2}, []int{4}), true, true, true},
		"sb":                       {sample.Graph(sb(""), []int{1, 0}, []int{2}, []int{4}), true, true, true},
		"sb acqrel":                {sample.Graph(sb("fence acqrel; "), []int{1, 0}, []int{2}, []int{5}), true, true, true},
		"sb sc":                    {sample.Graph(sb("fence sc; "), []int{1, 0}, []int{2}, []int{5}), true, true, false},
		"sb sc, seen":              {sample.Graph(sb("fence sc; "), []int{5, 0}, []int{2}, []int{5}), true, true, true},
		"lb":                       {sample.Graph("locs 2; thread; r1 = load x rlx; store y rlx 1; thread; r2 = load y rlx; store x rlx 1", []int{5, 3}, []int{5}, []int{3}), true, true, true},
		"lb data":                  {sample.Graph("locs 2; thread; r1 = load x rlx; store y rlx r1; thread; r2 = load y rlx; store x rlx r2", []int{5, 3}, []int{5}, []int{3}), true, true, false},
		"lb data, constants":       {sample.Graph("locs 2; thread; r1 = load x rlx; store y rlx r1 0 * 1 +; thread; r2 = load y rlx; store x rlx r2", []int{5, 3}, []int{5}, []int{3}), true, true, false},
		"lb data, one alone":       {sample.Graph("locs 2; thread; r1 = load x rlx; store y rlx 1; thread; r2 = load y rlx; store x rlx r2", []int{5, 3}, []int{5}, []int{3}), true, true, true},
		"lb acquire":               {sample.Graph("locs 2; thread; r1 = load x acq; store y rlx 1; thread; r2 = load y acq; store x rlx 1", []int{5, 3}, []int{5}, []int{3}), true, true, false},
		"two adds":                 {sample.Graph("locs 1; thread; r1 = faa x rlx rlx 1; thread; r1 = faa x rlx rlx 1", []int{0, 2}, []int{2, 4}), true, true, true},
		"two adds of one":          {sample.Graph("locs 1; thread; r1 = faa x rlx rlx 1; thread; r1 = faa x rlx rlx 1", []int{0, 0}, []int{2, 4}), true, false, true},
		"a write between":          {sample.Graph("locs 1; thread; r1 = faa x rlx rlx 1; thread; store x rlx 7", []int{0}, []int{3, 2}), true, false, true},
		"a write ahead":            {sample.Graph("locs 1; thread; r1 = faa x rlx rlx 1; thread; store x rlx 7", []int{3}, []int{3, 2}), true, true, true},
		"a write behind":           {sample.Graph("locs 1; thread; r1 = faa x rlx rlx 1; thread; store x rlx 7", []int{0}, []int{2, 3}), true, true, true},
		"own write":                {sample.Graph("locs 1; thread; store x rlx 1; r1 = load x rlx", []int{1}, []int{1}), true, true, true},
		"not own write":            {sample.Graph("locs 1; thread; store x rlx 1; r1 = load x rlx", []int{0}, []int{1}), false, true, true},
		"write from behind":        {sample.Graph("locs 1; thread; r1 = load x rlx; store x rlx 1", []int{2}, []int{2}), false, true, true},
		"own writes turned":        {sample.Graph("locs 1; thread; store x rlx 1; store x rlx 2", nil, []int{2, 1}), false, true, true},
		"reads turned":             {sample.Graph("locs 1; thread; store x rlx 1; store x rlx 2; thread; r1 = load x rlx; r2 = load x rlx", []int{2, 1}, []int{1, 2}), false, true, true},
		"reads in order":           {sample.Graph("locs 1; thread; store x rlx 1; store x rlx 2; thread; r1 = load x rlx; r2 = load x rlx", []int{1, 2}, []int{1, 2}), true, true, true},
		"three threads":            {sample.Graph("locs 2; thread; store x rlx 1; thread; r1 = load x rlx; fence sc; r2 = load y rlx; thread; store y rlx 1; fence sc; r3 = load x rlx", []int{2, 1, 0}, []int{2}, []int{6}), true, true, false},
	} {
		if imm.Coherent(x.g) != x.coherent || imm.Atomic(x.g) != x.atomic || imm.Ordered(x.g) != x.ordered || imm.Consistent(x.g) != (x.coherent && x.atomic && x.ordered) {
			t.Error(name, imm.Coherent(x.g), imm.Atomic(x.g), imm.Ordered(x.g), imm.Consistent(x.g))
		}
	}
}

// P12.1: a graph that is none may not be.
func TestNone(t *testing.T) {
	g := sample.Graph("locs 1; thread; store x rlx 1; r1 = load x rlx", []int{1}, []int{1})
	g.Events[2].Value = 2
	if imm.Consistent(g) {
		t.Error("another value")
	}
	for _, g := range []api.Graph{{}, {Locs: math.MaxInt, Events: make([]api.Event, 100), Rf: []int{5, -7}, Co: [][]int{{9, -9}}, Data: []api.Pair{{A: -1, B: 99}}, Rmw: []api.Pair{{A: 5, B: 1000}}}} {
		imm.Coherent(g)
		imm.Atomic(g)
		imm.Ordered(g)
		if imm.Consistent(g) {
			t.Error(g)
		}
	}
}

// P12.2
func TestOneThread(t *testing.T) {
	g := sample.Graph("locs 2; thread; store x rel 1; r1 = load x acq; store x rlx 2; fence sc; r2 = load x rlx; store y rlx r2; r3 = faa y acq rel 5; r4 = load y rlx", []int{2, 4, 7, 9}, []int{2, 4}, []int{7, 9})
	if !imm.Consistent(g) {
		t.Error("one thread that reads what it last wrote")
	}
}
