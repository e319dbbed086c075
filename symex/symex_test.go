package symex_test

import (
	"math"
	"math/rand"
	"slices"
	"strings"
	"testing"

	"exegesis/api"
	"exegesis/enum"
	"exegesis/lang"
	"exegesis/sound"
	"exegesis/symex"
	"exegesis/term"
	"exegesis/thread"
)

func code(s string) []api.Instr {
	var l []api.Instr
	for _, line := range strings.Split(s, "; ") {
		i, ok := lang.ParseLine(line)
		if !ok {
			panic(line)
		}
		l = append(l, i)
	}
	return l
}

func numbers(l []int) string {
	s := ""
	for _, v := range l {
		s += string(rune('0' + v))
	}
	return s
}

// text is paths as a text: conditions, then events, each with its data and control.
func text(l []symex.Path) string {
	s := ""
	for _, p := range l {
		for _, c := range p.Conds {
			s += "if " + map[bool]string{true: "", false: "not "}[c.Taken] + term.Text(c.T) + ", "
		}
		for _, e := range p.Events {
			s += []string{"?", "R", "W", "B"}[e.Kind] + string(rune('0'+e.Mode)) + string(rune('x'+e.Loc))
			if e.Ex {
				s += "!"
			}
			if e.Value != nil {
				s += term.Text(e.Value)
			}
			s += "[" + numbers(e.Data) + "/" + numbers(e.Ctrl) + "] "
		}
		s += "\n"
	}
	return s
}

// P23.1
func TestPaths(t *testing.T) {
	for _, x := range []struct{ s, want string }{
		{"r1 = 1", "\n"},
		{"r1 = load x rlx; store y rlx r1", "R0x[/] W0yi0[0/] \n"},
		{"store z rel 3 4 *; fence sc; r1 = load x acq; fence acq", "W2z12[/] B4x[/] R1x[/] B1x[/] \n"},
		{"r1 = load x rlx; r2 = load y rlx; r3 = r2 r1 +; store x rlx r3 r1 -; r1 = 5; store y rlx r1", "R0x[/] R0y[/] W0x((i0 + i1) - i0)[01/] W0y5[/] \n"},
		{"r1 = faa x acq rel 2; store y rlx r1", "R1x![/] W2x!(2 + i0)[0/] W0yi0[0/] \n"},
		{"r0 = load x rlx; skip 0 r0 0 *; store y rlx r0 1 +", "R0x[/] W0y(1 + i0)[0/0] \n"},
		{"r1 = faa x rlx rlx 0", "R0x![/] W0x!i0[0/] \n"},
		{"r1 = load y rlx; r2 = faa x rlx rlx r1 1 -", "R0y[/] R0x![/] W0x!((i0 - 1) + i1)[01/] \n"},
		{"store x rlx r5", "W0x0[/] \n"},
		// A Skip whose term is a Const parts nothing, but control grows.
		{"skip 1 1; fence sc; fence rel", "B2x[/] \n"}, {"skip 1 0; fence sc; fence rel", "B4x[/] B2x[/] \n"}, {"skip 1 r3; fence sc", "B4x[/] \n"},
		{"r1 = load x rlx; skip 1 r1 0 *; fence sc; fence rel", "R0x[/] B4x[/0] B2x[/0] \n"}, {"r1 = load x rlx; skip 1 r1 0 * 1 +; fence sc; fence rel", "R0x[/] B2x[/0] \n"},
		// It parts: first taken, then not.
		{"r1 = load x rlx; skip 1 r1; fence sc; fence rel", "if i0, R0x[/] B2x[/0] \nif not i0, R0x[/] B4x[/0] B2x[/0] \n"},
		{"r1 = load x rlx; skip 0 r1; store y rlx r1", "if i0, R0x[/] W0yi0[0/0] \nif not i0, R0x[/] W0yi0[0/0] \n"},
		{"r1 = load x rlx; skip 1 r1; skip 1 r1; fence sc", "if i0, R0x[/] B4x[/0] \nif not i0, if i0, R0x[/] \nif not i0, if not i0, R0x[/] B4x[/0] \n"},
		{"r1 = load x rlx; skip 1 r1; r2 = load y rlx; r3 = load x acq; skip 1 r3; store x rlx r2 r3 +", "if i0, if i1, R0x[/] R1x[/0] \nif i0, if not i1, R0x[/] R1x[/0] W0xi1[1/01] \nif not i0, if i2, R0x[/] R0y[/0] R1x[/0] \nif not i0, if not i2, R0x[/] R0y[/0] R1x[/0] W0x(i1 + i2)[12/02] \n"},
	} {
		l, e := symex.Paths(code(x.s))
		if e != api.OK || text(l) != x.want {
			t.Errorf("%s: %d\n%s not\n%s", x.s, e, text(l), x.want)
		}
	}
	if l, e := symex.Paths(nil); e != api.OK || len(l) != 1 || len(l[0].Events)+len(l[0].Conds) != 0 {
		t.Error("no instructions", l, e)
	}
}

// P23.1: ErrBig.
func TestBig(t *testing.T) {
	skips := "r1 = load x rlx" + strings.Repeat("; skip 0 r1", 6)
	if l, e := symex.Paths(code(skips)); e != api.OK || len(l) != 64 {
		t.Error("MaxPaths", len(l), e)
	}
	if l, e := symex.Paths(code(skips + "; skip 0 r1")); e != api.ErrBig || len(l) != 0 {
		t.Error("more than MaxPaths", len(l), e)
	}
	if l, e := symex.Paths(code(skips + strings.Repeat("; skip 0 r1", 5000))); e != api.ErrBig || len(l) != 0 {
		t.Error("far more than MaxPaths", len(l), e)
	}
	if l, e := symex.Paths(code(skips + strings.Repeat("; skip 0 1", 5000))); e != api.OK || len(l) != 64 {
		t.Error("Skips that part nothing", len(l), e)
	}
	// r1 is of size 1, then 3, 7, 15, 31, 63.
	grow := "r1 = load x rlx" + strings.Repeat("; r1 = r1 r1 *", 4)
	for _, x := range []struct {
		s string
		e api.Errno
	}{
		{grow, api.OK}, {grow + "; r1 = r1 r1 *", api.ErrBig}, {grow + "; store y rlx r1 r1 *", api.ErrBig}, {grow + "; skip 0 r1 r1 *", api.ErrBig}, {grow + "; r2 = r1 5 - r1 *", api.ErrBig},
		// What stands within it on the way plays no part.
		{grow + "; r2 = r1 2 * 3 * 4 *", api.OK}, {grow + "; r2 = r1 r1 + 0 *", api.OK}, {grow + "; r2 = r1 r1 * r1 * r1 * 0 *", api.OK}, {grow + "; skip 1 1; store y rlx r1 r1 *", api.OK}, {grow + "; r3 = load x rlx; skip 1 r3; store y rlx r1 r1 *", api.ErrBig},
		{"r1 = load x rlx" + strings.Repeat("; r1 = r1 1 ^", 29) + "; r1 = 0 r1 -", api.ErrBig}, {"r1 = load x rlx" + strings.Repeat("; r1 = r1 1 ^", 29), api.OK}, {"r1 = load x rlx" + strings.Repeat("; r1 = r1 1 ^", 30), api.ErrBig},
		{"r1 = load x rlx" + strings.Repeat("; r1 = r1 1 ^", 29) + "; r1 = r1 0 +; r2 = r1; store x rlx r2", api.OK},
	} {
		if l, e := symex.Paths(code(x.s)); e != x.e || e != api.OK && len(l) != 0 {
			t.Error(x.s, e)
		}
	}
	// What a Faa writes: 59 and 2 are too many.
	faa := func(n int) []api.Instr {
		l := code("r1 = load x rlx" + strings.Repeat("; r1 = r1 1 ^", n))
		return append(l, code("r2 = faa x rlx rlx r1")...)
	}
	if _, e := symex.Paths(faa(28)); e != api.OK {
		t.Error("a Faa", e)
	}
	if _, e := symex.Paths(faa(29)); e != api.ErrBig {
		t.Error("a Faa of more", e)
	}
}

// P23.2
func TestSameWithin(t *testing.T) {
	paths := func(s string) []symex.Path {
		l, e := symex.Paths(code(s))
		if e != api.OK {
			t.Fatal(s)
		}
		return l
	}
	for i, x := range []struct {
		a, b         string
		same, within bool
	}{
		{"r1 = load x rlx; store y rlx r1", "r3 = load x rlx; r4 = r3 0 +; store y rlx r4", true, true},
		{"r1 = load x rlx; store y rlx 0", "r1 = load x rlx; store y rlx r1 0 *", true, true},
		{"r1 = load x rlx; store y rlx r1 0 *", "r1 = load x rlx; store y rlx 0", true, false},
		{"r1 = load x rlx; skip 0 r1 0 *; fence sc", "r1 = load x rlx; fence sc", true, false},
		{"r1 = load x rlx; fence sc", "r1 = load x rlx; skip 0 r1 0 *; fence sc", true, true},
		{"r1 = load x rlx", "r1 = load x acq", false, false}, {"r1 = load x rlx", "r1 = load y rlx", false, false}, {"fence sc", "fence rel", false, false}, {"store x rlx 1", "store x rlx 2", false, false}, {"store x rlx 1", "r1 = load x rlx", false, false}, {"fence sc", "fence sc; fence sc", false, false}, {"fence sc", "r1 = 1", false, false},
		{"r1 = faa x rlx rlx 1", "r1 = load x rlx; store x rlx r1 1 +", false, false},
		{"r1 = load x rlx; skip 0 r1", "r1 = load x rlx", false, false}, {"r1 = load x rlx; skip 0 r1", "r1 = load x rlx; skip 0 r1 1 +", false, false}, {"r1 = load x rlx; skip 0 r1", "r1 = load x rlx; skip 0 r1 0 ^", true, true},
		{"r1 = load x rlx; skip 1 r1; fence sc; fence rel", "r1 = load x rlx; skip 1 r1; fence rel; fence rel", false, false},
		{"r1 = load x rlx; r2 = load x rlx; store y rlx r1 r2 +", "r1 = load x rlx; r2 = load x rlx; store y rlx r2 r1 +", true, true},
		{"r1 = load x rlx; r2 = load x rlx; store y rlx r1 r2 -", "r1 = load x rlx; r2 = load x rlx; store y rlx r2 r1 -", false, false},
	} {
		a, b := paths(x.a), paths(x.b)
		if symex.Same(a, b) != x.same || symex.Same(b, a) != x.same || symex.Within(a, b) != x.within || !symex.Within(a, a) {
			t.Error(i, x)
		}
	}
	r, w := term.Read(0), term.Num(0)
	c := []symex.Path{{Conds: []symex.Cond{{r, true}}, Events: []symex.Event{{Value: w, Data: []int{3, 1}, Ctrl: []int{2}}}}}
	turned := []symex.Path{{Conds: []symex.Cond{{r, false}}, Events: []symex.Event{{Data: []int{1, 2, 3}, Ctrl: []int{2, 2}}}}}
	if symex.Same(c, turned) {
		t.Error("Taken")
	}
	turned[0].Conds[0].Taken = true
	if !symex.Same(c, turned) || !symex.Within(c, turned) || symex.Within(turned, c) {
		t.Error("lists in any order")
	}
	if !symex.Same(nil, nil) || symex.Same(nil, c) || !symex.Within(nil, []symex.Path{}) {
		t.Error("none")
	}
}

// P23.3: of given reads one path's conditions hold; its events are those of Do.
func TestEventsOfDo(t *testing.T) {
	rnd := rand.New(rand.NewSource(1))
	lines := strings.Split("r1 = load x rlx; r2 = load y acq; r1 = faa x rlx rel 1; store x rel r1 r2 +; store y rlx r1 r1 -; fence sc; r1 = r1 2 *; r2 = r1 r2 <; skip 1 r1; skip 2 r2 1 =; skip 0 r1 0 *; skip 1 r2 r2 -; skip 3 1", "; ")
	some := 0
	for range 3000 {
		var l []api.Instr
		for range rnd.Intn(9) {
			l = append(l, code(lines[rnd.Intn(len(lines))])...)
		}
		if sound.Check(api.Prog{Locs: 2, Threads: [][]api.Instr{l}}) != api.OK {
			continue
		}
		paths, e := symex.Paths(l)
		if e != api.OK {
			t.Fatal(e)
		}
		values := enum.Values(l, []int{0, 1, -2})
		for _, reads := range values[:min(len(values), 30)] {
			run, _ := thread.Do(l, reads)
			n := 0
			for _, p := range paths {
				if holds(p, reads) {
					n++
					if !events(p, run, reads) {
						t.Fatal(lang.Text(api.Prog{Locs: 2, Threads: [][]api.Instr{l}}), reads)
					}
				}
			}
			if n != 1 {
				t.Fatal(n, "paths")
			}
			some++
		}
	}
	if some < 5000 {
		t.Error(some)
	}
}

func holds(p symex.Path, reads []int) bool {
	return !slices.ContainsFunc(p.Conds, func(c symex.Cond) bool { return (term.Eval(c.T, reads) != 0) != c.Taken })
}

func events(p symex.Path, run thread.Run, reads []int) bool {
	var places []int
	for at, e := range run.Events {
		if e.Kind == api.Read {
			places = append(places, at)
		}
	}
	var data, ctrl []api.Pair
	for at, e := range p.Events {
		f := api.Event{Kind: e.Kind, Mode: e.Mode, Loc: e.Loc, Ex: e.Ex}
		if e.Kind == api.Write {
			f.Value = term.Eval(e.Value, reads)
		}
		if e.Kind == api.Read {
			f.Value = run.Events[at].Value
		}
		if at >= len(run.Events) || f != run.Events[at] {
			return false
		}
		for _, r := range e.Data {
			data = append(data, api.Pair{A: places[r], B: at})
		}
		for _, r := range e.Ctrl {
			ctrl = append(ctrl, api.Pair{A: places[r], B: at})
		}
	}
	order := func(p, q api.Pair) int { return (p.A-q.A)*1000 + p.B - q.B }
	slices.SortFunc(data, order)
	slices.SortFunc(ctrl, order)
	return len(p.Events) == len(run.Events) && slices.Equal(data, run.Data) && slices.Equal(ctrl, run.Ctrl)
}

// R1, R3: instructions that may not be; no two lists share memory.
func TestNone(t *testing.T) {
	rnd := rand.New(rand.NewSource(3))
	wild := []int{math.MinInt, -9, -1, 0, 1, 2, 3, 7, 8, 64, math.MaxInt}
	some := func() int { return wild[rnd.Intn(len(wild))] }
	for range 5000 {
		var l []api.Instr
		for range rnd.Intn(6) {
			i := api.Instr{Kind: rnd.Intn(8), Mode: some(), Mode2: some(), Reg: some(), Loc: some(), N: some()}
			for range rnd.Intn(4) {
				i.E = append(i.E, api.Tok{Kind: rnd.Intn(5), V: some()})
			}
			l = append(l, i)
		}
		symex.Paths(l)
	}
	l, _ := symex.Paths(code("r1 = load x rlx; skip 0 r1; store x rlx r1; store x rlx r1"))
	l[0].Events[1].Ctrl[0], l[0].Events[1].Data[0] = 9, 9
	if l[0].Events[2].Ctrl[0] != 0 || l[0].Events[2].Data[0] != 0 || l[1].Events[1].Ctrl[0] != 0 {
		t.Error("shared")
	}
}
