package explore

import (
	"slices"

	"exegesis/api"
)

// choose goes through what the threads do from the i-th one on, if those ahead need and write this.
func (s *search) choose(i int, needs, gives mask) {
	if i == len(s.order) {
		s.members(0, make([]behaviour, len(s.threads)))
		return
	}
	later := s.first
	for _, t := range s.order[i+1:] {
		later |= s.may[t]
	}
	for g := range s.does(s.order[i], gives|later) {
		n, v := needs|g.needs, gives|g.gives
		if n&^(v|later) != 0 {
			continue
		}
		s.picked = append(s.picked[:i], g)
		s.choose(i+1, n, v)
		if s.graphs > api.MaxGraphs {
			return
		}
	}
}

// does is all that a thread may do if the others write no more than that.
func (s *search) does(t int, others mask) func(yield func(group) bool) {
	if s.known[t] != nil {
		return slices.Values(s.known[t])
	}
	w := &walk{s: s, thread: s.threads[t], may: others | s.may[t], about: ^mask(0)}
	return func(yield func(group) bool) {
		for b := range w.each(nil, 0) {
			if !b.stuck && !yield(b.grouped()) {
				return
			}
		}
	}
}

// members goes through the behaviours of what was picked, from the i-th group on.
func (s *search) members(i int, chosen []behaviour) {
	if i == len(s.picked) {
		if n := s.count(chosen); n > 0 {
			s.graphs += n
			s.found = append(s.found, slices.Clone(chosen))
		}
		return
	}
	for _, b := range s.picked[i].members {
		chosen[s.order[i]] = b
		s.members(i+1, chosen)
		if s.graphs > api.MaxGraphs {
			return
		}
	}
}

// count is how many graphs there are if the threads do this; of more than MaxGraphs just more.
func (s *search) count(chosen []behaviour) int {
	n := 1
	times := func(m int) { n = min(n*m, api.MaxGraphs+1) }
	sources, writes := s.sources(chosen)
	for _, m := range writes {
		for k := 2; k <= m; k++ {
			times(k)
		}
	}
	for _, b := range chosen {
		for i, d := range b.places {
			if d != open {
				times(sources[b.locs[i]][d])
				continue
			}
			sum := 0
			for _, m := range sources[b.locs[i]] {
				sum += m
			}
			times(sum)
		}
	}
	return n
}

// sources is how many writes there are of each location, of each value of the domain, and how many of each location, the first ones left out.
func (s *search) sources(chosen []behaviour) (sources [api.MaxLocs][api.MaxDomain]int, writes [api.MaxLocs]int) {
	for loc := range s.locs {
		for d := range s.domain {
			if s.first&bit(loc, d) != 0 {
				sources[loc][d]++
			}
			for _, b := range chosen {
				sources[loc][d] += b.values[loc][d]
			}
		}
		for _, b := range chosen {
			writes[loc] += b.writes[loc]
		}
	}
	return sources, writes
}

// closed is all lists of places that open reads may have besides.
func (s *search) closed(chosen []behaviour) [][][]int {
	sources, _ := s.sources(chosen)
	l := [][][]int{nil}
	for _, b := range chosen {
		var longer [][][]int
		for _, ahead := range l {
			for _, places := range filled(b, sources, nil) {
				longer = append(longer, append(slices.Clip(ahead), places))
			}
		}
		l = longer
	}
	return l
}

// filled is all lists of places of one thread that begin so.
func filled(b behaviour, sources [api.MaxLocs][api.MaxDomain]int, begin []int) [][]int {
	n := len(begin)
	if n == len(b.places) {
		return [][]int{begin}
	}
	if d := b.places[n]; d != open {
		return filled(b, sources, append(slices.Clip(begin), d))
	}
	var l [][]int
	for d, m := range sources[b.locs[n]] {
		if m > 0 {
			l = append(l, filled(b, sources, append(slices.Clip(begin), d))...)
		}
	}
	return l
}
