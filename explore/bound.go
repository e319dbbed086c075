package explore

import (
	"cmp"
	"slices"
)

// bound finds what threads may write: at first all values, then those that they write if they read such values.
func (s *search) bound() {
	n := len(s.threads)
	s.may, s.known = make([]mask, n), make([][]group, n)
	zero := slices.Index(s.domain, 0)
	for loc := range s.locs {
		if zero >= 0 {
			s.first |= bit(loc, zero)
		}
		for t, thread := range s.threads {
			s.writes[loc] += thread.Writes[loc]
			if thread.Writes[loc] > 0 {
				s.may[t] |= all(loc)
			}
		}
	}
	asked := make([]mask, n)
	for again := true; again; {
		again = false
		for t := range s.threads {
			readable := s.readable()
			if asked[t] == readable && readable != 0 {
				continue
			}
			asked[t] = readable
			if may := s.learn(t, readable); may != s.may[t] {
				s.may[t] = may
				again = true
			}
		}
	}
}

// readable is what somebody may write.
func (s *search) readable() mask {
	m := s.first
	for _, may := range s.may {
		m |= may
	}
	return m
}

// learn finds what a thread may do if it reads what is readable, and says what it may write.
func (s *search) learn(t int, readable mask) mask {
	w := &walk{s: s, thread: s.threads[t], may: readable, about: ^mask(0)}
	l, ok := w.groups()
	s.known[t] = l
	if ok {
		return given(l) & s.may[t]
	}
	// That was too much; one location at a time may be less.
	var may mask
	for loc := range s.locs {
		w := &walk{s: s, thread: s.threads[t], may: readable, about: all(loc)}
		if l, ok := w.groups(); ok {
			may |= given(l) & all(loc)
		} else {
			may |= all(loc)
		}
	}
	return may & s.may[t]
}

// given is all that behaviours write.
func given(l []group) mask {
	var m mask
	for _, g := range l {
		m |= g.gives
	}
	return m
}

// arrange puts the threads in order: those that may do least ahead, those that may do too much at the end.
func (s *search) arrange() {
	for t := range s.threads {
		s.order = append(s.order, t)
	}
	slices.SortStableFunc(s.order, func(a, b int) int {
		if (s.known[a] == nil) != (s.known[b] == nil) {
			if s.known[b] == nil {
				return -1
			}
			return 1
		}
		return cmp.Compare(len(s.known[a]), len(s.known[b]))
	})
}
