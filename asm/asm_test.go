package asm_test

import (
	"math"
	"math/rand"
	"reflect"
	"strings"
	"testing"

	"exegesis/api"
	"exegesis/asm"
	"exegesis/expr"
)

func e(s string) []api.Tok {
	l, _ := expr.Parse(s)
	return l
}

// program is the program of lines divided by semicolons.
func program(s string) api.PProg {
	p, line, errno := asm.Parse(strings.ReplaceAll(s, "; ", "\n"))
	if errno != api.OK {
		panic(line)
	}
	return p
}

// P15.1
func TestLines(t *testing.T) {
	for _, x := range []struct {
		s string
		i api.PInstr
	}{
		{"ld r1 x", api.PInstr{Kind: api.Ld, Reg: 1}}, {"ld r7 w", api.PInstr{Kind: api.Ld, Reg: 7, Loc: 3}},
		{"st y r1 1 +", api.PInstr{Kind: api.St, Loc: 1, E: e("r1 1 +")}},
		{"larx r0 z", api.PInstr{Kind: api.Larx, Loc: 2}}, {"stcx x r1 1 +", api.PInstr{Kind: api.Stcx, E: e("r1 1 +")}},
		{"lwsync", api.PInstr{Kind: api.Lwsync}}, {"sync", api.PInstr{Kind: api.Sync}}, {"isync", api.PInstr{Kind: api.Isync}},
		{"mov r3 -7", api.PInstr{Kind: api.Mov, Reg: 3, E: e("-7")}}, {"bc 0 r1", api.PInstr{Kind: api.Bc, E: e("r1")}}, {"bc 99 1 2 <", api.PInstr{Kind: api.Bc, N: 99, E: e("1 2 <")}},
	} {
		if got := asm.Line(x.i); got != x.s {
			t.Errorf("%q, not %q", got, x.s)
		}
		p, line, errno := asm.Parse("locs 1\nthread\n" + x.s)
		if errno != api.OK || line != 0 || !reflect.DeepEqual(p, api.PProg{Locs: 1, Threads: [][]api.PInstr{{x.i}}}) {
			t.Error(x.s, p, line, errno)
		}
	}
	for _, i := range []api.PInstr{
		{}, {Kind: 10}, {Kind: -1}, {Kind: math.MaxInt}, {Kind: api.Ld, Reg: 8}, {Kind: api.Ld, Reg: -1}, {Kind: api.Ld, Loc: 4}, {Kind: api.Ld, E: e("1")}, {Kind: api.Ld, N: 1},
		{Kind: api.St}, {Kind: api.St, Reg: 1, E: e("1")}, {Kind: api.St, Loc: -1, E: e("1")}, {Kind: api.St, N: 1, E: e("1")}, {Kind: api.Larx, N: 5}, {Kind: api.Larx, E: e("1")}, {Kind: api.Stcx}, {Kind: api.Stcx, Reg: 1, E: e("1")},
		{Kind: api.Lwsync, Reg: 1}, {Kind: api.Sync, Loc: 1}, {Kind: api.Isync, N: 1}, {Kind: api.Isync, E: e("1")}, {Kind: api.Mov}, {Kind: api.Mov, Loc: 1, E: e("1")}, {Kind: api.Mov, Reg: 1, E: []api.Tok{{Kind: 5}}},
		{Kind: api.Bc}, {Kind: api.Bc, N: 100, E: e("1")}, {Kind: api.Bc, N: -1, E: e("1")}, {Kind: api.Bc, Reg: 1, E: e("1")},
	} {
		if s := asm.Line(i); s != "" {
			t.Error(i, s)
		}
	}
}

// P15.1
func TestParse(t *testing.T) {
	p, line, errno := asm.Parse("# c\nlocs 2\n\nthread\nsync\n#\nthread\n")
	if errno != api.OK || line != 0 || !reflect.DeepEqual(p, api.PProg{Locs: 2, Threads: [][]api.PInstr{{{Kind: api.Sync}}, nil}}) {
		t.Error(p, line, errno)
	}
	for _, s := range []string{"ld", "ld r1", "ld x r1", "ld r1 x x", "ld r8 x", "ld  r1 x", "ld r1 x ", " ld r1 x", "st x", "st x ", "st r1 1", "larx r1", "stcx x", "lwsync 1", "sync ", "isync\t", "mov r1", "mov r1 1 +", "bc r1", "bc 100 r1", "bc 01 r1", "bc -1 r1", "bc 1", "r1 = load x rlx", "?", "? r1 x", "locs 1", "thread 1", "nop", "LD r1 x"} {
		if p, line, errno := asm.Parse("locs 1\nthread\nsync\n" + s + "\nx"); errno != api.ErrText || line != 4 || !reflect.DeepEqual(p, api.PProg{}) {
			t.Errorf("%q: %v %d %d", s, p, line, errno)
		}
	}
	for _, x := range []struct {
		s    string
		line int
		e    api.Errno
	}{{"", 1, api.ErrText}, {"thread\n", 2, api.ErrText}, {"locs 1\nsync", 2, api.ErrText}, {"locs 5", 1, api.ErrText}, {"locs 1\nlocs 1", 2, api.ErrText}, {"thread\nlocs 1", 2, api.ErrText}, {strings.Repeat("\n", 4001), 0, api.ErrBig}, {"locs 1" + strings.Repeat("\n", 3994), 0, api.OK}} {
		if p, line, errno := asm.Parse(x.s); errno != x.e || line != x.line || errno != api.OK && !reflect.DeepEqual(p, api.PProg{}) {
			t.Errorf("%.10q: %v %d %d", x.s, p, line, errno)
		}
	}
}

// P15.1
func TestText(t *testing.T) {
	if s := asm.Text(program("locs 2; thread; larx r1 x; stcx x r1 1 +; thread; isync")); s != "locs 2\nthread\nlarx r1 x\nstcx x r1 1 +\nthread\nisync\n" {
		t.Errorf("%q", s)
	}
	sync := api.PInstr{Kind: api.Sync}
	many := func(n int) api.PProg {
		l := make([]api.PInstr, n)
		for i := range l {
			l[i] = sync
		}
		return api.PProg{Locs: 1, Threads: [][]api.PInstr{l}}
	}
	if s := asm.Text(many(797)); len(s) != 14+797*5 {
		t.Error(len(s))
	}
	for _, p := range []api.PProg{{}, {Locs: 5}, {Locs: 1, Threads: [][]api.PInstr{{{}}}}, {Locs: 1, Threads: [][]api.PInstr{{{Kind: api.Sync, N: 1}}}}, many(798), many(100000)} {
		if s := asm.Text(p); s != "" {
			t.Errorf("%.20q", s)
		}
	}
}

// P15.2
func TestCheck(t *testing.T) {
	hundred := "locs 1; thread" + strings.Repeat("; sync", 100)
	for _, x := range []struct {
		s string
		e api.Errno
	}{
		{"locs 1; thread", api.OK}, {"locs 1", api.ErrForm}, {"locs 4; thread; thread; thread; thread", api.OK}, {"locs 4; thread; thread; thread; thread; thread", api.ErrBig},
		{"locs 1; thread; ld r1 x; st x r1; lwsync; sync; isync; mov r1 1; bc 0 r1", api.OK}, {"locs 1; thread; ld r1 y", api.ErrForm}, {"locs 2; thread; ld r1 y", api.OK}, {"locs 1; thread; st w 1", api.ErrForm}, {"locs 3; thread; larx r1 w; stcx w 1", api.ErrForm},
		{"locs 2; thread; larx r1 x; stcx x r1", api.OK}, {"locs 2; thread; larx r1 x; stcx y r1", api.ErrForm}, {"locs 2; thread; larx r1 x", api.ErrForm}, {"locs 2; thread; stcx x r1", api.ErrForm}, {"locs 2; thread; larx r1 x; sync; stcx x r1", api.ErrForm}, {"locs 2; thread; larx r1 x; larx r1 x; stcx x r1", api.ErrForm}, {"locs 2; thread; larx r1 x; stcx x r1; stcx x r1", api.ErrForm}, {"locs 2; thread; larx r1 x; thread; stcx x r1", api.ErrForm}, {"locs 2; thread; ld r1 x; stcx x r1", api.ErrForm}, {"locs 1; thread; larx r1 x; st x r1", api.ErrForm},
		{"locs 1; thread; bc 1 r1", api.ErrForm}, {"locs 1; thread; bc 1 r1; sync", api.OK}, {"locs 1; thread; bc 2 r1; sync", api.ErrForm}, {"locs 1; thread; sync; bc 0 r1", api.OK}, {"locs 1; thread; bc 99 r1; sync", api.ErrForm},
		{"locs 1; thread; bc 0 r1; larx r1 x; stcx x r1", api.OK}, {"locs 1; thread; bc 1 r1; larx r1 x; stcx x r1", api.ErrForm}, {"locs 1; thread; bc 2 r1; larx r1 x; stcx x r1", api.OK}, {"locs 1; thread; bc 2 r1; sync; larx r1 x; stcx x r1", api.ErrForm},
		{hundred, api.OK}, {hundred + "; sync", api.ErrBig}, {hundred + "; sync; bc 1 r1", api.ErrForm}, {"locs 1; thread; thread; thread; thread; thread; stcx x 1", api.ErrForm},
	} {
		if got := asm.Check(program(x.s)); got != x.e {
			t.Error(x, got)
		}
	}
	for _, p := range []api.PProg{{}, {Locs: -1, Threads: make([][]api.PInstr, 1)}, {Locs: 5, Threads: make([][]api.PInstr, 1)}, {Locs: math.MaxInt, Threads: make([][]api.PInstr, 9)}, {Locs: 1, Threads: [][]api.PInstr{{{}}}}, {Locs: 1, Threads: [][]api.PInstr{{{Kind: api.Ld, Reg: 8}}}}, {Locs: 1, Threads: [][]api.PInstr{{{Kind: api.Sync, N: 1}}}}, {Locs: 1, Threads: [][]api.PInstr{{{Kind: api.Mov, E: e("")}}}}, {Locs: 1, Threads: [][]api.PInstr{{{Kind: api.Bc, N: -1, E: e("1")}}}}, {Locs: 1, Threads: [][]api.PInstr{{{Kind: api.Bc, N: math.MaxInt, E: e("1")}}}}} {
		if got := asm.Check(p); got != api.ErrForm {
			t.Error(p, got)
		}
	}
}

// P15.3
func TestTextIsRead(t *testing.T) {
	rnd := rand.New(rand.NewSource(1))
	es := []string{"", "1", "r1", "r1 2 +", "-3 r7 * r0 <", "1 2"}
	small := func(n int) int { return rnd.Intn(n+2) - 1 }
	good := 0
	for range 20000 {
		i := api.PInstr{Kind: rnd.Intn(11)}
		for _, f := range []func(){func() { i.Reg = small(8) }, func() { i.Loc = small(4) }, func() { i.E = e(es[rnd.Intn(len(es))]) }, func() { i.N = small(100) }} {
			if rnd.Intn(2) == 0 {
				f()
			}
		}
		p := api.PProg{Locs: 1 + rnd.Intn(4), Threads: [][]api.PInstr{nil, {i, i}}}
		s := asm.Text(p)
		back, _, errno := asm.Parse(s)
		if (s != "") != (asm.Line(i) != "") || (s != "") != (errno == api.OK) || s != "" && !reflect.DeepEqual(back, p) {
			t.Error(i, s, back, errno)
		}
		if s != "" {
			good++
		}
	}
	if good < 500 {
		t.Error(good)
	}
}
