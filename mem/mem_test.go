package mem_test

import (
	"math"
	"math/rand"
	"slices"
	"testing"

	"exegesis/api"
	"exegesis/mem"
)

func same(a, b [][]int) bool { return slices.EqualFunc(a, b, slices.Equal) }

// P8.1
func TestFinal(t *testing.T) {
	first := api.Graph{Locs: 3, Events: make([]api.Event, 3), Co: [][]int{{0}, {1}, {2}}}
	if l := mem.Final(first); !slices.Equal(l, []int{0, 0, 0}) {
		t.Error("a graph without threads", l)
	}
	g := api.Graph{Locs: 2, Events: []api.Event{{}, {}, {Value: 5}, {Value: -6}, {Value: 7}}, Co: [][]int{{0, 3, 2}, {1, 4}}}
	if l := mem.Final(g); !slices.Equal(l, []int{5, 7}) {
		t.Error(l)
	}
	g.Co[0] = []int{0, 2, 3}
	if l := mem.Final(g); !slices.Equal(l, []int{-6, 7}) {
		t.Error(l)
	}
	for _, g := range []api.Graph{{}, {Locs: math.MaxInt}, {Locs: 1, Co: [][]int{nil, {5}, {-1}, {math.MaxInt}}}} {
		mem.Final(g)
	}
}

// P8.1
func TestSort(t *testing.T) {
	for i, x := range []struct{ l, want [][]int }{
		{nil, nil}, {[][]int{}, nil}, {[][]int{nil, {}}, [][]int{nil}}, {[][]int{{2}, {1}, {2}}, [][]int{{1}, {2}}},
		{[][]int{{1, 2}, {1}, {1, 1, 9}, nil, {-5}, {1}}, [][]int{nil, {-5}, {1}, {1, 1, 9}, {1, 2}}},
		{[][]int{{10}, {9}, {math.MinInt}, {math.MaxInt}}, [][]int{{math.MinInt}, {9}, {10}, {math.MaxInt}}},
	} {
		var kept [][]int
		for _, m := range x.l {
			kept = append(kept, slices.Clone(m))
		}
		l := mem.Sort(x.l)
		if !same(l, x.want) || !same(kept, x.l) {
			t.Error(i, l, x.l)
		}
		for _, m := range l {
			if len(m) > 0 {
				m[0] = 77
			}
		}
		if !same(kept, x.l) {
			t.Error(i, "shared")
		}
	}
}

// P8.1
func TestHas(t *testing.T) {
	l := [][]int{{3, 1}, {2}, {}}
	for i, x := range []struct {
		m  []int
		ok bool
	}{{[]int{3, 1}, true}, {[]int{3}, false}, {[]int{3, 1, 0}, false}, {[]int{1, 3}, false}, {nil, true}, {[]int{2}, true}, {[]int{0}, false}} {
		if mem.Has(l, x.m) != x.ok || mem.In([][]int{x.m}, l) != x.ok || mem.Has(nil, x.m) {
			t.Error(i, x)
		}
	}
	for i, x := range []struct {
		a, b [][]int
		in   bool
	}{{nil, nil, true}, {nil, l, true}, {l, nil, false}, {l, l, true}, {[][]int{{2}, {2}, {3, 1}}, l, true}, {[][]int{{2}, {4}}, l, false}, {[][]int{nil}, [][]int{{}}, true}, {[][]int{nil}, [][]int{{0}}, false}} {
		if mem.In(x.a, x.b) != x.in {
			t.Error(i, x)
		}
	}
	if !same(l, [][]int{{3, 1}, {2}, {}}) {
		t.Error("turned")
	}
}

// P8.2
func TestSortOfSort(t *testing.T) {
	rnd := rand.New(rand.NewSource(1))
	for range 300 {
		var l [][]int
		for range rnd.Intn(20) {
			var m []int
			for range rnd.Intn(4) {
				m = append(m, rnd.Intn(3)-1)
			}
			l = append(l, m)
		}
		s := mem.Sort(l)
		if !same(mem.Sort(s), s) || !mem.In(s, l) || !mem.In(l, s) {
			t.Error(l, s)
		}
		for i := 1; i < len(s); i++ {
			if slices.Compare(s[i-1], s[i]) >= 0 {
				t.Error(s)
			}
		}
	}
}
