package valid_test

import (
	"math"
	"math/rand"
	"strings"
	"testing"

	"exegesis/api"
	"exegesis/behave"
	"exegesis/cert"
	"exegesis/lang"
	"exegesis/mem"
	"exegesis/rules"
	"exegesis/sample"
	"exegesis/sound"
	"exegesis/valid"
)

func big() string {
	return "locs 1; thread; r1 = load x rlx" + strings.Repeat("; r1 = r1 r1 *", 5)
}

// P26.1
func TestMatch(t *testing.T) {
	ok := sample.Program("locs 1; thread")
	five := api.Prog{Locs: 1, Threads: make([][]api.Instr, 5)}
	bad := sample.Program("locs 1; thread; store x acq 1")
	huge := sample.Program(big())
	for i, x := range []struct {
		p, q api.Prog
		e    api.Errno
	}{
		{ok, ok, api.OK}, {api.Prog{}, ok, api.ErrForm}, {ok, api.Prog{}, api.ErrForm}, {five, ok, api.ErrBig}, {ok, five, api.ErrBig}, {five, bad, api.ErrBig}, {bad, five, api.ErrForm}, {api.Prog{Locs: math.MaxInt}, huge, api.ErrForm}, {huge, bad, api.ErrForm},
		{ok, sample.Program("locs 2; thread"), api.ErrMatch}, {ok, sample.Program("locs 1; thread; thread"), api.ErrMatch}, {sample.Program("locs 1; thread; thread"), ok, api.ErrMatch},
		{huge, huge, api.ErrBig}, {ok, huge, api.ErrBig}, {huge, ok, api.ErrBig}, {sample.Program("locs 1; thread; fence sc; thread"), sample.Program("locs 1; thread; fence rel; " + big()[len("locs 1; "):]), api.ErrBig}, {huge, sample.Program("locs 2; thread"), api.ErrMatch},
		{sample.Program("locs 1; thread; thread; fence sc"), sample.Program("locs 1; thread; thread; fence rel"), api.ErrMatch},
		{sample.Program("locs 1; thread; r1 = load x rlx; store x rlx r1 1 +"), sample.Program("locs 1; thread; r5 = load x rlx; r6 = 1; store x rlx r6 r5 +"), api.OK},
		{sample.Program("locs 1; thread; r1 = load x rlx; store x rlx 0"), sample.Program("locs 1; thread; r1 = load x rlx; store x rlx r1 0 *"), api.OK}, {sample.Program("locs 1; thread; r1 = load x rlx; store x rlx r1 0 *"), sample.Program("locs 1; thread; r1 = load x rlx; store x rlx 0"), api.ErrMatch},
		{sample.Program("locs 1; thread; fence sc; thread; fence rel"), sample.Program("locs 1; thread; fence rel; thread; fence sc"), api.ErrMatch},
	} {
		if e := valid.Match(x.p, x.q); e != x.e {
			t.Error(i, lang.Text(x.p), lang.Text(x.q), e)
		}
	}
}

func steps(s string) []api.Step {
	l, ok := cert.Parse(strings.ReplaceAll(s, "; ", "\n"))
	if !ok {
		panic(s)
	}
	return l
}

// P26.1
func TestCheck(t *testing.T) {
	const p = "locs 2; thread; store x rlx 1; store y rlx 2; fence sc"
	for i, x := range []struct {
		p, q, l string
		v       api.Verdict
	}{
		{p, p, "", api.Verdict{}}, {p, "locs 2; thread; store y rlx 2; store x rlx 1; fence sc", "swap 0 0 rlx; ", api.Verdict{At: 1}}, {p, p, "swap 0 0 rlx; swap 0 0 rlx; ", api.Verdict{At: 2}},
		{p, p, "swap 0 0 rlx; ", api.Verdict{Err: api.ErrMatch, At: 1}}, {p, "locs 2; thread; store y rlx 2; store x rlx 1; fence sc", "", api.Verdict{Err: api.ErrMatch}}, {p, p, "swap 0 0 rlx; swap 0 1 rlx; swap 0 0 rlx; ", api.Verdict{Err: api.ErrRule, At: 1}},
		{p, "locs 2; thread; store x acq 1", "swap 0 0 rlx; swap 0 0 rlx; ", api.Verdict{Err: api.ErrForm, At: 2}}, {p, "locs 2; thread; store x acq 1", "swap 0 1 rlx; ", api.Verdict{Err: api.ErrRule}}, {"locs 1; thread; store x acq 1", p, "swap 0 0 rlx; ", api.Verdict{Err: api.ErrForm}},
		{big(), big(), "", api.Verdict{Err: api.ErrBig}}, {p, "locs 1; thread", "insert 0 3 sc; ", api.Verdict{Err: api.ErrMatch, At: 1}}, {"locs 1; thread; thread; thread; thread; thread", p, "", api.Verdict{Err: api.ErrBig}},
		{"locs 1; thread" + strings.Repeat("; fence sc", 11), p, "insert 0 0 rel; insert 0 0 rel; ", api.Verdict{Err: api.ErrBig, At: 1}},
	} {
		if v := valid.Check(sample.Program(x.p), sample.Program(x.q), steps(x.l)); v != x.v {
			t.Error(i, v, x.v)
		}
	}
	many := make([]api.Step, 21)
	if v := valid.Check(sample.Program(p), sample.Program(p), many); v != (api.Verdict{Err: api.ErrBig}) {
		t.Error(v)
	}
}

// renamed is a program with other registers, and expressions written otherwise; what it does is the same.
func renamed(rnd *rand.Rand, p api.Prog) api.Prog {
	by := rnd.Perm(8)
	q := api.Prog{Locs: p.Locs}
	for _, l := range p.Threads {
		var m []api.Instr
		for _, i := range l {
			i.Reg = map[bool]int{true: by[i.Reg], false: i.Reg}[i.Kind == api.Load || i.Kind == api.Faa || i.Kind == api.Set]
			var e []api.Tok
			for _, tok := range i.E {
				if tok.Kind == api.Reg {
					tok.V = by[tok.V]
				}
				e = append(e, tok)
			}
			if len(e) > 0 && len(e) < 6 && rnd.Intn(2) == 0 {
				e = append(e, api.Tok{Kind: api.Const}, api.Tok{Kind: api.Op, V: api.Xor})
			}
			i.E = e
			m = append(m, i)
		}
		q.Threads = append(q.Threads, m)
	}
	return q
}

// P26.2, T2, T4: each program is accepted for itself, each rule with its step; whatever is accepted has no end that p has not.
func TestTheorem(t *testing.T) {
	rnd := rand.New(rand.NewSource(1))
	lines := strings.Split("r1 = load x rlx; r2 = load x rlx; r2 = load y rlx; r1 = load y acq; store x rlx 1; store x rlx 1 1 +; store x rlx r1; store y rlx 1; store y rel r1; store x rel 1; fence acq; fence rel; fence sc; r1 = faa x rlx rlx 1; r2 = faa x rlx rlx r1; r2 = faa y acq rel 1; r2 = 1; r1 = r2; skip 1 r1; skip 2 r2", "; ")
	accepted, long := 0, 0
	for range 800 {
		p := api.Prog{Locs: 2, Threads: make([][]api.Instr, 2)}
		for range 3 + rnd.Intn(4) {
			at := rnd.Intn(len(p.Threads))
			i, _ := lang.ParseLine(lines[rnd.Intn(len(lines))])
			p.Threads[at] = append(p.Threads[at], i)
		}
		if sound.Check(p) != api.OK {
			continue
		}
		if v := valid.Check(p, p, nil); v != (api.Verdict{}) {
			t.Error(lang.Text(p), v)
		}
		made, l := p, []api.Step(nil)
		for range 60 {
			s := api.Step{Rule: 1 + rnd.Intn(8), Thread: rnd.Intn(2), At: rnd.Intn(4)}
			if s.Rule == api.Strengthen || s.Rule == api.Insert && rnd.Intn(10) == 0 {
				s.Mode = 1 + rnd.Intn(4)
			}
			if q, e := rules.Apply(made, s); e == api.OK && len(l) < 6 {
				if v := valid.Check(made, q, []api.Step{s}); v != (api.Verdict{At: 1}) {
					t.Error(lang.Text(made), s, v)
				}
				made = q
				l = append(l, s)
			}
		}
		q := renamed(rnd, made)
		if v := valid.Check(p, q, l); v != (api.Verdict{At: len(l)}) {
			t.Error(lang.Text(p), lang.Text(q), l, v)
		}
		domain := []int{0, 1, 2, 3, 4, 5}
		a, e := behave.Of(p, domain)
		b, f := behave.Of(q, domain)
		if e != api.OK || f != api.OK {
			continue
		}
		accepted++
		if len(l) > 1 {
			long++
		}
		if !mem.In(b, a) {
			t.Error(lang.Text(p), lang.Text(q), l)
		}
	}
	if accepted < 300 || long < 100 {
		t.Error(accepted, long)
	}
}

// P26.2: q at random that happens to be accepted without a step.
func TestAcceptedAtRandom(t *testing.T) {
	rnd := rand.New(rand.NewSource(2))
	lines := strings.Split("r1 = load x rlx; r2 = load x rlx; store y rlx r1; store y rlx r2; store x rlx 1; r1 = r2; r2 = r1; skip 0 r1; r1 = r1 0 *; store x rlx r1 r2 -", "; ")
	some := 0
	for range 6000 {
		var p [2]api.Prog
		for n := range p {
			p[n] = sample.Program("locs 2; thread; thread; r1 = load y rlx; store x rlx r1 1 +")
			for range rnd.Intn(5) {
				i, _ := lang.ParseLine(lines[rnd.Intn(len(lines))])
				p[n].Threads[0] = append(p[n].Threads[0], i)
			}
		}
		if valid.Check(p[0], p[1], nil).Err != api.OK {
			continue
		}
		some++
		a, e := behave.Of(p[0], []int{0, 1, 2, 3, 4})
		b, f := behave.Of(p[1], []int{0, 1, 2, 3, 4})
		if e == api.OK && f == api.OK && !mem.In(b, a) {
			t.Error(lang.Text(p[0]), lang.Text(p[1]))
		}
	}
	if some < 50 {
		t.Error(some)
	}
}
