package lang_test

import (
	"math/rand"
	"reflect"
	"strings"
	"testing"

	"exegesis/api"
	"exegesis/expr"
	"exegesis/lang"
)

func e(s string) []api.Tok {
	l, _ := expr.Parse(s)
	return l
}

// P3.1
func TestLines(t *testing.T) {
	for _, x := range []struct {
		s string
		i api.Instr
	}{
		{"r1 = load x acq", api.Instr{Kind: api.Load, Reg: 1, Mode: api.Acq}},
		{"r7 = load w sc", api.Instr{Kind: api.Load, Reg: 7, Loc: 3, Mode: api.SC}},
		{"store y rlx r1 1 +", api.Instr{Kind: api.Store, Loc: 1, E: e("r1 1 +")}},
		{"store z rel -5", api.Instr{Kind: api.Store, Loc: 2, Mode: api.Rel, E: e("-5")}},
		{"fence acqrel", api.Instr{Kind: api.Fence, Mode: api.AcqRel}},
		{"fence rlx", api.Instr{Kind: api.Fence}},
		{"r0 = faa x acq rel 1 2 *", api.Instr{Kind: api.Faa, Mode: api.Acq, Mode2: api.Rel, E: e("1 2 *")}},
		{"r0 = faa w sc rlx r0 1 1 1 1 + + + +", api.Instr{Kind: api.Faa, Loc: 3, Mode: api.SC, E: e("r0 1 1 1 1 + + + +")}},
		{"r3 = r3", api.Instr{Kind: api.Set, Reg: 3, E: e("r3")}},
		{"r3 = 1 2 =", api.Instr{Kind: api.Set, Reg: 3, E: e("1 2 =")}},
		{"skip 0 r1", api.Instr{Kind: api.Skip, E: e("r1")}},
		{"skip 12 1", api.Instr{Kind: api.Skip, N: 12, E: e("1")}},
	} {
		if got := lang.Line(x.i); got != x.s {
			t.Errorf("%q, not %q", got, x.s)
		}
		if i, ok := lang.ParseLine(x.s); !ok || !reflect.DeepEqual(i, x.i) {
			t.Error(x, i, ok)
		}
	}
}

// P3.1
func TestNoLines(t *testing.T) {
	for _, i := range []api.Instr{
		{}, {Kind: 7}, {Kind: -1}, {Kind: api.Load, Reg: 8}, {Kind: api.Load, Reg: -1}, {Kind: api.Load, Loc: 4}, {Kind: api.Load, Loc: -1}, {Kind: api.Load, Mode: 5}, {Kind: api.Load, Mode: -1}, {Kind: api.Load, Mode2: 1}, {Kind: api.Load, N: 1}, {Kind: api.Load, E: e("1")},
		{Kind: api.Store}, {Kind: api.Store, Reg: 1, E: e("1")}, {Kind: api.Store, Mode2: 1, E: e("1")}, {Kind: api.Store, E: []api.Tok{{Kind: 9}}}, {Kind: api.Store, Loc: 4, E: e("1")},
		{Kind: api.Fence, Loc: 1}, {Kind: api.Fence, Mode: 5}, {Kind: api.Fence, E: e("1")}, {Kind: api.Fence, Mode2: -1},
		{Kind: api.Faa}, {Kind: api.Faa, Mode2: 9, E: e("1")}, {Kind: api.Faa, N: -1, E: e("1")},
		{Kind: api.Set, Reg: 1}, {Kind: api.Set, Mode: 1, E: e("1")}, {Kind: api.Set, Loc: 1, E: e("1")}, {Kind: api.Set, Reg: 1 << 60, E: e("1")},
		{Kind: api.Skip}, {Kind: api.Skip, N: 13, E: e("1")}, {Kind: api.Skip, N: -1, E: e("1")}, {Kind: api.Skip, Reg: 1, E: e("1")},
	} {
		if s := lang.Line(i); s != "" {
			t.Error(i, s)
		}
	}
	for _, s := range []string{
		"", " ", "load", "r1", "r1 =", "r1 = ", "r1 = load", "r1 = load x", "r1 = load x acq ", " r1 = load x acq", "r1  = load x acq", "r1 = load x acq 1", "r1 = load a acq", "r1 = load xy acq", "r1 = load x y acq", "r1 = load x relaxed", "r8 = load x acq", "r01 = load x acq", "r = load x acq", "1 = load x acq", "r1=load x acq", "r1 load x acq", "r1 = load x\tacq", "r1 = load x acq\n", "R1 = load x acq",
		"store", "store x", "store x rlx", "store x rlx ", "store x rlx 1 2", "store x 1", "store rlx x 1", "store x rlx r8", "store x rlx 01",
		"fence", "fence ", "fence sc sc", "fence x", "fence ?", "r1 = load ? acq", "fence sc ", "fences sc",
		"r1 = faa x acq 1", "r1 = faa x acq rel", "r1 = faa x rel", "faa x acq rel 1", "r1 = faa x acq rel 1 +",
		"r1 = 1 +", "r1 = = 1", "r1 = -0", "skip", "skip 1", "skip 1 ", "skip 13 1", "skip -1 1", "skip 01 1", "skip +1 1", "skip r1 1", "skip 1 1 1", "thread", "locs 1", "# x", "store x rlx 1 1 1 1 1 1 1 1 1 1 1 1 1 1 1 1 1 1 1 1 1 1",
	} {
		if i, ok := lang.ParseLine(s); ok || !reflect.DeepEqual(i, api.Instr{}) {
			t.Errorf("%q: %v", s, i)
		}
	}
}

// P3.2
func TestParse(t *testing.T) {
	p, line, errno := lang.Parse("# one\n\nlocs 2\n#\nthread\n\nstore x rlx 1\nr1 = load y rlx\nthread\nthread\nfence sc")
	want := api.Prog{Locs: 2, Threads: [][]api.Instr{{{Kind: api.Store, E: e("1")}, {Kind: api.Load, Reg: 1, Loc: 1}}, nil, {{Kind: api.Fence, Mode: api.SC}}}}
	if line != 0 || errno != api.OK || !reflect.DeepEqual(p, want) {
		t.Error(p, line, errno)
	}
	for _, x := range []struct {
		s    string
		line int
	}{
		{"", 1}, {"\n", 2}, {"\n\n", 3}, {"#", 2}, {"#\n", 2}, {"thread", 2}, {"thread\nfence sc\n", 3}, {"x", 1}, {"\nx\ny", 2}, {"locs 0", 1}, {"locs 5", 1}, {"locs 01", 1}, {"locs", 1}, {"locs ", 1}, {"locs  1", 1}, {"locs 1 ", 1}, {" locs 1", 1}, {"locs\t1", 1}, {"locs 11", 1},
		{"locs 1\nlocs 1", 2}, {"thread\nlocs 1", 2}, {"locs 1\nthread\nlocs 1", 3}, {"locs 1\nfence sc", 2}, {"fence sc\n", 1}, {"locs 1\nthread \n", 2}, {"locs 1\nthreads\n", 2}, {"locs 1\n thread", 2}, {"locs 1\n #", 2}, {"locs 1\n \n", 2}, {"locs 1\r\n", 1}, {"locs 1\nthread\nfence sc\nstore x rlx\nq", 4}, {"locs 1\nthread\nr1 = load x acq \n", 3},
	} {
		p, line, errno := lang.Parse(x.s)
		if line != x.line || errno != api.ErrText || !reflect.DeepEqual(p, api.Prog{}) {
			t.Errorf("%q: %v %d %d", x.s, p, line, errno)
		}
	}
	long := "locs 3\n#" + strings.Repeat("x", api.MaxText-8)
	if p, line, errno := lang.Parse(long); p.Locs != 3 || line != 0 || errno != api.OK {
		t.Error("MaxText bytes", line, errno)
	}
	if p, line, errno := lang.Parse(long + "x"); p.Locs != 0 || line != 0 || errno != api.ErrBig {
		t.Error("more than MaxText bytes", line, errno)
	}
	if _, line, errno := lang.Parse("x\n" + strings.Repeat("\n", api.MaxText)); line != 0 || errno != api.ErrBig {
		t.Error("ErrBig comes first", line, errno)
	}
}

// P3.2
func TestText(t *testing.T) {
	p := api.Prog{Locs: 2, Threads: [][]api.Instr{{{Kind: api.Store, E: e("1")}}, {}}}
	if s := lang.Text(p); s != "locs 2\nthread\nstore x rlx 1\nthread\n" {
		t.Errorf("%q", s)
	}
	if s := lang.Text(api.Prog{Locs: 4}); s != "locs 4\n" {
		t.Errorf("%q", s)
	}
	// 14 bytes ahead, 4 fences of 9 bytes, 395 of 10: just MaxText.
	fences := make([]api.Instr, 399)
	for i := range fences {
		fences[i] = api.Instr{Kind: api.Fence, Mode: api.Acq}
		if i < 4 {
			fences[i].Mode = api.SC
		}
	}
	if s := lang.Text(api.Prog{Locs: 1, Threads: [][]api.Instr{fences}}); len(s) != api.MaxText {
		t.Error(len(s))
	}
	fences[0].Mode = api.Acq
	for _, p := range []api.Prog{{}, {Locs: -1}, {Locs: 5}, {Locs: 1, Threads: [][]api.Instr{{{}}}}, {Locs: 1, Threads: [][]api.Instr{{{Kind: api.Load, N: 1}}}}, {Locs: 1, Threads: [][]api.Instr{fences}}, {Locs: 1, Threads: make([][]api.Instr, 571)}} {
		if s := lang.Text(p); s != "" {
			t.Error(s)
		}
	}
	if s := lang.Text(api.Prog{Locs: 1, Threads: make([][]api.Instr, 570)}); len(s) != 7+570*7 {
		t.Error("not yet too long", len(s))
	}
}

func randomInstr(rnd *rand.Rand) api.Instr {
	es := []string{"", "1", "r1", "r1 2 +", "-3 r7 * r0 <", "1 2"}
	small := func(n int) int { return rnd.Intn(n+2) - 1 }
	i := api.Instr{Kind: 1 + rnd.Intn(6)}
	for _, f := range []func(){func() { i.Mode = small(5) }, func() { i.Mode2 = small(5) }, func() { i.Reg = small(8) }, func() { i.Loc = small(4) }, func() { i.E = e(es[rnd.Intn(len(es))]) }, func() { i.N = small(13) }} {
		if rnd.Intn(2) == 0 {
			f()
		}
	}
	return i
}

// P3.3
func TestTextIsRead(t *testing.T) {
	rnd := rand.New(rand.NewSource(1))
	good := 0
	for range 20000 {
		i := randomInstr(rnd)
		s := lang.Line(i)
		back, ok := lang.ParseLine(s)
		if ok != (s != "") || ok && !reflect.DeepEqual(back, i) {
			t.Error(i, s, back)
		}
		if ok {
			good++
		}
	}
	if good < 500 {
		t.Error(good)
	}
	for range 2000 {
		p := api.Prog{Locs: 1 + rnd.Intn(4)}
		for range rnd.Intn(4) {
			var l []api.Instr
			for range rnd.Intn(4) {
				if i := randomInstr(rnd); lang.Line(i) != "" {
					l = append(l, i)
				}
			}
			p.Threads = append(p.Threads, l)
		}
		back, line, errno := lang.Parse(lang.Text(p))
		if line != 0 || errno != api.OK || !reflect.DeepEqual(back, p) {
			t.Error(p, back, line, errno)
		}
	}
}

// P3.3: what is read is said again, whatever the bytes are.
func TestAnyBytes(t *testing.T) {
	rnd := rand.New(rand.NewSource(2))
	parts := []string{"r1", "r", " ", " ", " ", "=", "load", "store", "x", "acq", "rlx", "1", "+", "faa", "fence", "skip", "\n", "thread\n", "locs 1\n", "#", "\x00", "é"}
	for range 20000 {
		s := ""
		for range rnd.Intn(10) {
			s += parts[rnd.Intn(len(parts))]
		}
		if i, ok := lang.ParseLine(s); ok && lang.Line(i) != s {
			t.Errorf("%q", s)
		}
		if p, _, errno := lang.Parse(s); errno == api.OK && lang.Text(p) == "" {
			t.Errorf("%q", s)
		}
	}
}
