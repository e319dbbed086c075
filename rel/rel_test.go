package rel_test

import (
	"math/rand"
	"slices"
	"testing"

	"exegesis/api"
	"exegesis/rel"
)

// plain is a relation as a set of pairs: the slow way to the same answers.
type plain map[api.Pair]bool

func (m plain) sorted() []api.Pair {
	var l []api.Pair
	for p := range m {
		l = append(l, p)
	}
	slices.SortFunc(l, func(a, b api.Pair) int {
		if a.A != b.A {
			return a.A - b.A
		}
		return a.B - b.B
	})
	return l
}

func keep(m plain, f func(api.Pair) bool) plain {
	out := plain{}
	for p := range m {
		if f(p) {
			out[p] = true
		}
	}
	return out
}

func union(a, b plain) plain {
	out := plain{}
	for p := range a {
		out[p] = true
	}
	for p := range b {
		out[p] = true
	}
	return out
}

func then(a, b plain) plain {
	out := plain{}
	for p := range a {
		for q := range b {
			if p.B == q.A {
				out[api.Pair{A: p.A, B: q.B}] = true
			}
		}
	}
	return out
}

func plus(a plain) plain {
	for {
		b := union(a, then(a, a))
		if len(b) == len(a) {
			return a
		}
		a = b
	}
}

func some(rnd *rand.Rand, n, pairs int) (*rel.Rel, plain) {
	var l []api.Pair
	m := plain{}
	for range pairs {
		p := api.Pair{A: rnd.Intn(n+2) - 1, B: rnd.Intn(n+2) - 1}
		l = append(l, p)
		if p.A >= 0 && p.A < n && p.B >= 0 && p.B < n {
			m[p] = true
		}
	}
	return rel.New(n, l), m
}

func is(t *testing.T, what string, r *rel.Rel, n int, m plain) {
	t.Helper()
	if r.Len() != n || !slices.Equal(r.Pairs(), m.sorted()) {
		t.Errorf("%s: %d %v, not %d %v", what, r.Len(), r.Pairs(), n, m.sorted())
	}
}

// P1.1: all of it, against sets of pairs.
func TestAgainstSets(t *testing.T) {
	rnd := rand.New(rand.NewSource(1))
	for range 300 {
		n, k := 1+rnd.Intn(12), 1+rnd.Intn(12)
		r, m := some(rnd, n, rnd.Intn(2*n))
		s, o := some(rnd, k, rnd.Intn(2*k))
		big := max(n, k)
		is(t, "new", r, n, m)
		is(t, "or", r.Or(s), big, union(m, o))
		is(t, "and", r.And(s), big, keep(m, func(p api.Pair) bool { return o[p] }))
		is(t, "less", r.Less(s), big, keep(m, func(p api.Pair) bool { return !o[p] }))
		is(t, "then", r.Then(s), big, then(m, o))
		is(t, "plus", r.Plus(), n, plus(m))
		back, maybe, loops := plain{}, union(m, nil), false
		for p := range m {
			back[api.Pair{A: p.B, B: p.A}] = true
		}
		for i := range n {
			maybe[api.Pair{A: i, B: i}] = true
			loops = loops || plus(m)[api.Pair{A: i, B: i}]
		}
		is(t, "back", r.Back(), n, back)
		is(t, "maybe", r.Maybe(), n, maybe)
		if r.Loops() != loops {
			t.Error("loops", m)
		}
		if r.In(s) != (len(keep(m, func(p api.Pair) bool { return !o[p] })) == 0) || !r.And(s).In(s) || !r.In(r.Or(s)) {
			t.Error("in", m, o)
		}
		for a := -1; a <= n; a++ {
			for b := -1; b <= n; b++ {
				if r.Has(a, b) != m[api.Pair{A: a, B: b}] {
					t.Error("has", a, b)
				}
			}
		}
		is(t, "not turned", r, n, m)
		is(t, "not turned", s, k, o)
	}
}

// P1.1: places that there are not, and how many there may be.
func TestEdges(t *testing.T) {
	p := api.Pair{A: 39, B: 39}
	for _, c := range []struct{ n, len int }{{-1 << 63, 0}, {-1, 0}, {0, 0}, {1, 1}, {40, 40}, {41, 40}, {1<<63 - 1, 40}} {
		r := rel.New(c.n, []api.Pair{p, {A: 40, B: 0}, {A: 0, B: 40}, {A: -1, B: 0}, {A: 0, B: -1 << 63}, {A: 1<<63 - 1, B: 0}})
		if r.Len() != c.len || r.Has(39, 39) != (c.len == 40) || len(r.Pairs()) != c.len/40 {
			t.Error(c, r.Len(), r.Pairs())
		}
		if r.Has(40, 0) || r.Has(0, 64) || r.Has(-1, -1) || r.Has(1<<63-1, 1<<63-1) || r.Has(-1<<63, 0) {
			t.Error(c, "has what there is not")
		}
		if len(r.Maybe().Pairs()) != c.len {
			t.Error(c, "maybe")
		}
	}
	none, all := rel.New(0, nil), rel.New(40, nil).Maybe()
	if !none.In(none) || !none.In(all) || all.In(none) || none.Loops() || !all.Loops() || none.Or(all).Len() != 40 || all.Less(none).Len() != 40 {
		t.Error("none, all")
	}
	if !rel.New(9, nil).In(none) {
		t.Error("a relation without pairs is in each")
	}
	if r := rel.New(2, []api.Pair{{A: 0, B: 1}, {A: 1, B: 0}}); !r.Loops() || r.And(rel.New(2, []api.Pair{{A: 0, B: 1}})).Loops() {
		t.Error("0, 1 and 1, 0")
	}
	l := []api.Pair{{A: 1, B: 0}}
	r := rel.New(2, l)
	l[0].A = 0
	if r.Pairs()[0].B = 1; !r.Has(1, 0) || r.Has(1, 1) || r.Has(0, 0) {
		t.Error("lists are shared")
	}
}

// P1.2
func TestFollows(t *testing.T) {
	rnd := rand.New(rand.NewSource(2))
	for range 200 {
		n := 1 + rnd.Intn(40)
		a, _ := some(rnd, n, 2*n)
		b, _ := some(rnd, n, 2*n)
		c, _ := some(rnd, n, 2*n)
		if !slices.Equal(a.Then(b).Then(c).Pairs(), a.Then(b.Then(c)).Pairs()) {
			t.Error("then")
		}
		if !slices.Equal(a.Back().Back().Pairs(), a.Pairs()) {
			t.Error("back")
		}
		if !slices.Equal(a.Plus().Plus().Pairs(), a.Plus().Pairs()) {
			t.Error("plus")
		}
	}
}
