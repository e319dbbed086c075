package explore

import (
	"math/bits"
	"slices"

	"exegesis/api"
)

// open is the place of a read that may have each value that is written.
const open = -1

// behaviour is one thing that a thread may do: of each read the place of its value in the domain, and the location; which reads matter; which values are written; and how many writes there are of each value, of each location.
type behaviour struct {
	places, locs []int
	matters      uint64
	stuck        bool // a read has no value
	gives        mask
	values       [api.MaxLocs][api.MaxDomain]int
	writes       [api.MaxLocs]int
}

// walk goes through what a thread may do, with reads of some values.
type walk struct {
	s      *search
	thread Thread
	may    mask
	about  mask // what is asked about: writes of other values play no part
	probes int
	limit  int // how many probes are too much; 0: none are
}

// next is what a thread does if its first reads have values at some places of the domain, and the place of the read behind them, or that of the last event.
func (w *walk) next(places []int) (p Probe, at int) {
	w.probes++
	values := append(w.s.values(places), make([]int, w.thread.Reads)...)
	p = w.thread.Probe(values)
	n := 0
	for at, e := range p.Events {
		if e.Kind != api.Read {
			continue
		}
		if n == len(places) {
			return p, at
		}
		n++
	}
	return p, len(p.Events) - 1
}

// options is the places of values that a read of a location may have; values that the first writes do not write must come from as many writes.
func (w *walk) options(loc int, needs mask) []int {
	var l []int
	for d := range w.s.domain {
		b := bit(loc, d)
		if w.may&b != 0 && bits.OnesCount32(uint32((needs|b)&all(loc)&^w.s.first)) <= w.s.writes[loc] {
			l = append(l, d)
		}
	}
	return l
}

// hang is the numbers of the reads on which the control of an event depends, as bits.
func (p Probe) hang(at int) uint64 {
	var m uint64
	for _, c := range p.Ctrl {
		if c.B == at {
			m |= 1 << p.number(c.A)
		}
	}
	return m
}

// number is how many reads are ahead of an event.
func (p Probe) number(at int) int {
	n := 0
	for _, e := range p.Events[:at] {
		if e.Kind == api.Read {
			n++
		}
	}
	return n
}

// made is what a thread does whose reads have values at some places.
func (w *walk) made(places []int, p Probe) behaviour {
	b := behaviour{places: slices.Clone(places), matters: p.hang(len(p.Events) - 1)}
	for _, e := range p.Events {
		switch e.Kind {
		case api.Read:
			b.locs = append(b.locs, e.Loc)
		case api.Write:
			b.writes[e.Loc]++
			if d := slices.Index(w.s.domain, e.Value); d >= 0 {
				b.values[e.Loc][d]++
				b.gives |= bit(e.Loc, d)
			}
		}
	}
	for _, d := range p.Data {
		if w.about&all(p.Events[d.B].Loc) != 0 {
			b.matters |= 1 << p.number(d.A)
		}
	}
	return b
}

// stuck is what a thread does of which a read has no value, and on what that hangs.
func (w *walk) stuck(places []int, p Probe, at int) behaviour {
	b := behaviour{places: slices.Clone(places), stuck: true, matters: ^uint64(0)}
	if w.may&all(p.Events[at].Loc) == 0 {
		b.matters = p.hang(at)
	}
	return b
}

// each goes through all that begins so, read by read; a read on which nothing hangs is left open.
func (w *walk) each(places []int, needs mask) func(yield func(behaviour) bool) {
	return func(yield func(behaviour) bool) {
		if w.tooMuch() {
			return
		}
		p, at := w.next(places)
		if p.Events[at].Kind != api.Read {
			yield(w.made(places, p))
			return
		}
		loc := p.Events[at].Loc
		options := w.options(loc, needs)
		if len(options) == 0 {
			yield(w.stuck(places, p, at))
		}
		for i, d := range options {
			needed := needs
			if i > 0 { // With the first value it is not known yet whether anything hangs on the read.
				needed |= bit(loc, d)
			}
			hangs := false
			for b := range w.each(append(slices.Clip(places), d), needed) {
				if b.matters>>len(places)&1 == 1 {
					hangs = true
				} else if i > 0 {
					continue // the same as with the first value
				} else {
					b.places[len(places)] = open
				}
				if !yield(b) {
					return
				}
			}
			if i == 0 && !hangs {
				return
			}
		}
	}
}

func (w *walk) tooMuch() bool { return w.limit > 0 && w.probes > w.limit }

// groups is all that a thread may do; false, if that is too much.
func (w *walk) groups() ([]group, bool) {
	at := map[key]int{}
	groups := []group{}
	w.limit = w.s.patience
	for b := range w.each(nil, 0) {
		if b.stuck {
			continue
		}
		g := b.grouped()
		i, ok := at[g.key]
		if !ok {
			i = len(groups)
			at[g.key] = i
			groups = append(groups, group{key: g.key})
		}
		groups[i].members = append(groups[i].members, b)
	}
	if w.tooMuch() {
		return nil, false
	}
	return groups, true
}

// key is what behaviours need, write, and of which locations they leave reads open.
type key struct{ needs, gives, any mask }

// group is behaviours of a thread that have that in common.
type group struct {
	key
	members []behaviour
}

// grouped is a group of one behaviour.
func (b behaviour) grouped() group {
	k := key{gives: b.gives}
	for i, d := range b.places {
		if d == open {
			k.any |= all(b.locs[i])
		} else {
			k.needs |= bit(b.locs[i], d)
		}
	}
	return group{k, []behaviour{b}}
}
