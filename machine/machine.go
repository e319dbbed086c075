// Package machine: what threads of the language and of POWER have in common: registers, where their values come from, control, events.
package machine

import (
	"slices"

	"exegesis/api"
	"exegesis/expr"
	"exegesis/pairs"
)

// Machine is a thread on its way. Sets of reads are rising lists of places that are never changed.
type Machine struct {
	Events                 []api.Event
	Rmw, Data, Ctrl, CtrlI []api.Pair
	Used                   int
	reads                  []int
	regs                   [api.MaxRegs]int
	from                   [api.MaxRegs][]int
	control, settled       []int
}

// New is a thread that has done nothing, and whose reads will have some values.
func New(reads []int) *Machine { return &Machine{reads: reads} }

// Eval is an expression's value, and the reads it comes from.
func (m *Machine) Eval(e []api.Tok) (int, []int) {
	var from []int
	for _, r := range expr.Regs(e) {
		if 0 <= r && r < api.MaxRegs {
			from = Union(from, m.from[r])
		}
	}
	return expr.Eval(e, m.regs[:]), from
}

// Union is the rising list of what is in one of two.
func Union(a, b []int) []int {
	if len(a) == 0 {
		return b
	}
	if len(b) == 0 {
		return a
	}
	l := append(slices.Clone(a), b...)
	slices.Sort(l)
	return slices.Compact(l)
}

func (m *Machine) put(reg, v int, from []int) {
	if 0 <= reg && reg < api.MaxRegs {
		m.regs[reg], m.from[reg] = v, from
	}
}

// event puts an event behind the others, and says its place.
func (m *Machine) event(e api.Event) int {
	at := len(m.Events)
	m.Events = append(m.Events, e)
	m.Ctrl = depend(m.Ctrl, m.control, at)
	m.CtrlI = depend(m.CtrlI, m.settled, at)
	return at
}

func depend(l []api.Pair, from []int, at int) []api.Pair {
	for _, r := range from {
		l = append(l, api.Pair{A: r, B: at})
	}
	return l
}

// Read reads the next value into a register, and says the value and the place; false, if there is no value left.
func (m *Machine) Read(reg int, e api.Event) (v, at int, ok bool) {
	if m.Used == len(m.reads) {
		return 0, 0, false
	}
	v = m.reads[m.Used]
	m.Used++
	e.Kind, e.Value = api.Read, v
	at = m.event(e)
	m.put(reg, v, []int{at})
	return v, at, true
}

// Write writes a value that comes from some reads.
func (m *Machine) Write(e api.Event, v int, from []int) {
	e.Kind, e.Value = api.Write, v
	m.Data = depend(m.Data, from, m.event(e))
}

// Pair makes one of the last two events.
func (m *Machine) Pair() {
	if n := len(m.Events); n > 1 {
		m.Rmw = append(m.Rmw, api.Pair{A: n - 2, B: n - 1})
	}
}

// Bar is a fence.
func (m *Machine) Bar(mode int) { m.event(api.Event{Kind: api.Bar, Mode: mode}) }

// Set puts an expression's value into a register.
func (m *Machine) Set(reg int, e []api.Tok) {
	v, from := m.Eval(e)
	m.put(reg, v, from)
}

// Branch lets the control hang on an expression, and tells whether it is not 0.
func (m *Machine) Branch(e []api.Tok) bool {
	v, from := m.Eval(e)
	m.control = Union(m.control, from)
	return v != 0
}

// Settle makes the reads that the control hangs on settled.
func (m *Machine) Settle() { m.settled = Union(m.settled, m.control) }

// Regs is what registers hold.
func (m *Machine) Regs() []int { return slices.Clone(m.regs[:]) }

// Finish puts the pairs in order, each once.
func (m *Machine) Finish() {
	for _, l := range []*[]api.Pair{&m.Rmw, &m.Data, &m.Ctrl, &m.CtrlI} {
		*l = pairs.Sort(*l)
	}
}

// After is the place behind one of a list at which a thread goes on, if n more are left out.
func After(at, n, end int) int {
	if n > end-at-1 {
		return end
	}
	return at + 1 + max(n, 0)
}
