// Package rel: relations.
package rel

import (
	"math/bits"

	"exegesis/api"
)

// rows holds of each place a row of bits: the places that it is related to.
type rows [api.MaxEvents]uint64

// Rel is a relation.
type Rel struct {
	n    int
	rows rows
}

// New is a relation of some pairs.
func New(n int, l []api.Pair) *Rel {
	r := &Rel{n: min(max(n, 0), api.MaxEvents)}
	for _, p := range l {
		if r.there(p.A) && r.there(p.B) {
			r.rows[p.A] |= 1 << p.B
		}
	}
	return r
}

func (r *Rel) there(a int) bool { return 0 <= a && a < r.n }

// Len is how many places there are.
func (r *Rel) Len() int { return r.n }

// Has tells whether two places are a pair.
func (r *Rel) Has(a, b int) bool {
	return r.there(a) && r.there(b) && r.rows[a]>>b&1 == 1
}

// Pairs is all pairs.
func (r *Rel) Pairs() []api.Pair {
	n := 0
	for _, row := range r.rows {
		n += bits.OnesCount64(row)
	}
	l := make([]api.Pair, 0, n)
	for a, row := range r.rows {
		for ; row != 0; row &= row - 1 {
			l = append(l, api.Pair{A: a, B: bits.TrailingZeros64(row)})
		}
	}
	return l
}

// both is a relation over the places of the one with more, its rows made of two.
func both(r, s *Rel, row func(a, b uint64) uint64) *Rel {
	t := &Rel{n: max(r.n, s.n)}
	for a := range t.rows {
		t.rows[a] = row(r.rows[a], s.rows[a])
	}
	return t
}

// Or is what is in one of two.
func (r *Rel) Or(s *Rel) *Rel {
	return both(r, s, func(a, b uint64) uint64 { return a | b })
}

// And is what is in both.
func (r *Rel) And(s *Rel) *Rel {
	return both(r, s, func(a, b uint64) uint64 { return a & b })
}

// Less is what is not in the other one.
func (r *Rel) Less(s *Rel) *Rel {
	return both(r, s, func(a, b uint64) uint64 { return a &^ b })
}

// Then is one step of each.
func (r *Rel) Then(s *Rel) *Rel {
	t := &Rel{n: max(r.n, s.n)}
	for a, row := range r.rows {
		for ; row != 0; row &= row - 1 {
			t.rows[a] |= s.rows[bits.TrailingZeros64(row)]
		}
	}
	return t
}

// Back is each pair turned.
func (r *Rel) Back() *Rel {
	t := &Rel{n: r.n}
	for a, row := range r.rows {
		for ; row != 0; row &= row - 1 {
			t.rows[bits.TrailingZeros64(row)] |= 1 << a
		}
	}
	return t
}

// Plus is one step or more.
func (r *Rel) Plus() *Rel {
	t := r
	for {
		further := t.Or(t.Then(t))
		if further.rows == t.rows {
			return further
		}
		t = further
	}
}

// Maybe is one step or none.
func (r *Rel) Maybe() *Rel {
	t := &Rel{n: r.n, rows: r.rows}
	for a := range r.n {
		t.rows[a] |= 1 << a
	}
	return t
}

// In tells whether all pairs are another one's.
func (r *Rel) In(s *Rel) bool { return r.Or(s).rows == s.rows }

// Loops tells whether steps lead back.
func (r *Rel) Loops() bool {
	for a, row := range r.Plus().rows {
		if row>>a&1 == 1 {
			return true
		}
	}
	return false
}
