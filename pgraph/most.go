package pgraph

import (
	"exegesis/api"
	"exegesis/expr"
	"exegesis/machine"
)

// tooMany tells whether threads, with values of a domain, can make more events than a graph has.
func tooMany(p api.PProg, domain []int) bool {
	bound, most, some := p.Locs, p.Locs, true
	var all []*counter
	for _, l := range p.Threads {
		c := newCounter(l, domain)
		all = append(all, c)
		bound += c.bound[0]
	}
	if bound <= api.MaxEvents {
		return false
	}
	for _, c := range all {
		n := c.from(0, registers{})
		some = some && n >= 0
		most += n
	}
	return some && most > api.MaxEvents
}

type registers [api.MaxRegs]int

// state is where a thread is, and what its registers hold, as far as its way hangs on them.
type state struct {
	at   int
	regs registers
}

// counter counts the events of a thread, from each place on.
type counter struct {
	l      []api.PInstr
	domain []int
	bound  []int               // of each place how many events there may be, whatever the values are
	live   [][api.MaxRegs]bool // of each place on which registers the way hangs
	known  map[state]int
}

func newCounter(l []api.PInstr, domain []int) *counter {
	c := &counter{l: l, domain: domain, bound: make([]int, len(l)+1), live: make([][api.MaxRegs]bool, len(l)+1), known: map[state]int{}}
	for at := len(l) - 1; at >= 0; at-- {
		i := l[at]
		end := machine.After(at, i.N, len(l))
		c.bound[at] = max(c.bound[at+1], c.bound[end]) + made(i)
		c.live[at] = c.live[at+1]
		switch i.Kind {
		case api.Ld, api.Larx:
			c.live[at][i.Reg] = false
		case api.Mov:
			if c.live[at+1][i.Reg] {
				c.live[at][i.Reg] = false
				c.hang(at, i.E)
			}
		case api.Bc:
			for r, live := range c.live[end] {
				c.live[at][r] = c.live[at][r] || live
			}
			if i.N > 0 {
				c.hang(at, i.E)
			}
		}
	}
	return c
}

func (c *counter) hang(at int, e []api.Tok) {
	for _, r := range expr.Regs(e) {
		c.live[at][r] = true
	}
}

// made is how many events an instruction makes.
func made(i api.PInstr) int {
	switch i.Kind {
	case api.Isync, api.Mov, api.Bc:
		return 0
	}
	return 1
}

// from is how many events there are at most from a place on; below 0, if a read finds no value.
func (c *counter) from(at int, regs registers) int {
	for r, live := range c.live[at] {
		if !live {
			regs[r] = 0
		}
	}
	s := state{at, regs}
	n, ok := c.known[s]
	if !ok {
		n = c.count(s)
		c.known[s] = n
	}
	return n
}

func (c *counter) count(s state) int {
	if s.at == len(c.l) {
		return 0
	}
	i := c.l[s.at]
	next := s.at + 1
	switch i.Kind {
	case api.Ld, api.Larx:
		return c.read(s)
	case api.Mov:
		s.regs[i.Reg] = expr.Eval(i.E, s.regs[:])
	case api.Bc:
		if expr.Eval(i.E, s.regs[:]) != 0 {
			next += i.N
		}
	}
	n := c.from(next, s.regs)
	if n < 0 {
		return n
	}
	return n + made(i)
}

// read tries the values of the domain, as long as more events may come of it.
func (c *counter) read(s state) int {
	reg, most := c.l[s.at].Reg, -1
	for _, v := range c.domain {
		s.regs[reg] = v
		if n := c.from(s.at+1, s.regs); n >= 0 {
			most = max(most, n+1)
		}
		if !c.live[s.at+1][reg] || most == c.bound[s.at] {
			break
		}
	}
	return most
}
