package sheet_test

import (
	"math/rand"
	"reflect"
	"slices"
	"strings"
	"testing"

	"exegesis/api"
	"exegesis/asm"
	"exegesis/behave"
	"exegesis/cert"
	"exegesis/drive"
	"exegesis/imm"
	"exegesis/lang"
	"exegesis/lift"
	"exegesis/lower"
	"exegesis/mem"
	"exegesis/pgraph"
	"exegesis/power"
	"exegesis/rules"
	"exegesis/sheet"
	"exegesis/sound"
	"exegesis/valid"
)

// word is a text as a word of a sheet.
func word(s string) string {
	return strings.NewReplacer("; ", ";", "\n", ";", " ", "_").Replace(s)
}

// The ten examples of the document.
func TestExamples(t *testing.T) {
	three := func(s string) string { return "p locs_3;thread;" + word(s) + "\nimm\npower" }
	for i, x := range []struct{ s, want string }{
		// 1: z is 1 if the flag is seen and the message is not.
		{three("store x rlx 1; store y rlx 1; thread; r1 = load y rlx; r2 = load x rlx; store z rlx r2 r1 <"), "ok\n1 1 0\n1 1 1\n1 1 0\n1 1 1\n"},
		// 2
		{three("store x rlx 1; store y rel 1; thread; r1 = load y acq; r2 = load x rlx; store z rlx r2 r1 <"), "ok\n1 1 0\n1 1 0\n"},
		// 3: each thread adds 1 to z if it reads 0.
		{three("store x rlx 1; r1 = load y rlx; skip 1 r1; r2 = faa z rlx rlx 1; thread; store y rlx 1; r1 = load x rlx; skip 1 r1; r2 = faa z rlx rlx 1"), "ok\n1 1 0\n1 1 1\n1 1 2\n1 1 0\n1 1 1\n1 1 2\n"},
		{three("store x rlx 1; fence sc; r1 = load y rlx; skip 1 r1; r2 = faa z rlx rlx 1; thread; store y rlx 1; fence sc; r1 = load x rlx; skip 1 r1; r2 = faa z rlx rlx 1"), "ok\n1 1 0\n1 1 1\n1 1 0\n1 1 1\n"},
		// 4: each adds what it reads.
		{three("r1 = load x rlx; store y rlx 1; skip 1 r1 0 =; r2 = faa z rlx rlx 1; thread; r1 = load y rlx; store x rlx 1; skip 1 r1 0 =; r2 = faa z rlx rlx 1"), "ok\n1 1 0\n1 1 1\n1 1 2\n1 1 0\n1 1 1\n1 1 2\n"},
		{"p " + word("locs 2; thread; r1 = load x rlx; store y rlx r1; thread; r1 = load y rlx; store x rlx r1") + "\nimm\npower", "ok\n0 0\n0 0\n"},
		// 5
		{"p " + word("locs 1; thread; r1 = faa x rlx rlx 1; thread; r1 = faa x rlx rlx 1") + "\nimm\npower", "ok\n2\n2\n"},
		// 6
		{"p " + word("locs 2; thread; store x rlx 1; store y rlx 1") + "\nq " + word("locs 2; thread; store y rlx 1; store x rlx 1") + "\ncert swap_0_0_rlx\ncheck", "ok\nok\nok\nok\n"},
		{"p " + word("locs 2; thread; store x rlx 1; store y rel 1") + "\nq " + word("locs 2; thread; store y rel 1; store x rlx 1") + "\ncert swap_0_0_rlx\ncheck", "ok\nok\nok\nerror 7 0\n"},
		// 7
		{"p " + word("locs 1; thread; store x rlx 1; store x rlx 2") + "\nq " + word("locs 1; thread; store x rlx 2") + "\ncert dropwrite_0_0_rlx\ncheck", "ok\nok\nok\nok\n"},
		// 8
		{"p " + word("locs 1; thread; store x rlx 1") + "\nq " + word("locs 1; thread; store x rlx 1; fence sc") + "\ncert insert_0_1_sc\ncheck", "ok\nok\nok\nok\n"},
		// 9
		{"p " + word("locs 2; thread; store x rlx 1; store y rlx 1") + "\nq " + word("locs 2; thread; store y rlx 1; store x rlx 1") + "\ncert swap_0_0_rlx;swap_0_1_rlx\ncheck", "ok\nok\nok\nerror 7 1\n"},
		// 10
		{"p " + word("locs 1; thread; r1 = load x rlx; store x rlx r1") + "\nq " + word("locs 1; thread; r2 = load x rlx; store x rlx r2") + "\ncheck", "ok\nok\nok\n"},
	} {
		if said := run(t, x.s); said != x.want {
			t.Errorf("%d: %q, not %q", i, said, x.want)
		}
	}
}

// random is a program that may be, of two or three threads.
func random(rnd *rand.Rand) api.Prog {
	lines := strings.Split("r1 = load x rlx; r2 = load x rlx; r2 = load y rlx; r1 = load y acq; store x rlx 1; store x rlx 1 1 +; store x rlx r1; store y rlx 1; store y rlx r2; store y rel r1; store x rel 1; fence acq; fence rel; fence sc; r1 = faa x rlx rlx 1; r2 = faa y rlx rlx r1; r2 = faa y acq rel 1; r2 = 1; r1 = r2; skip 1 r1; skip 2 r2", "; ")
	for {
		p := api.Prog{Locs: 2, Threads: make([][]api.Instr, 2+rnd.Intn(2))}
		for range 3 + rnd.Intn(4) {
			at := rnd.Intn(len(p.Threads))
			i, _ := lang.ParseLine(lines[rnd.Intn(len(lines))])
			p.Threads[at] = append(p.Threads[at], i)
		}
		if sound.Check(p) == api.OK {
			return p
		}
	}
}

// turned is what some steps make of a program.
func turned(rnd *rand.Rand, p api.Prog) (api.Prog, []api.Step) {
	var l []api.Step
	for range 200 {
		s := api.Step{Rule: 1 + rnd.Intn(8), Thread: rnd.Intn(len(p.Threads)), At: rnd.Intn(4)}
		if s.Rule == api.Strengthen || s.Rule == api.Insert && rnd.Intn(9) == 0 {
			s.Mode = 1 + rnd.Intn(4)
		}
		if q, e := rules.Apply(p, s); e == api.OK && len(l) < 5 {
			p = q
			l = append(l, s)
		}
	}
	return p, l
}

// T1, T2, T3: of programs at random, and what steps at random make of them.
func TestWhole(t *testing.T) {
	rnd := rand.New(rand.NewSource(1))
	domain := []int{0, 1, 2, 3, 4, 5}
	some, executions := 0, 0
	for range 600 {
		p := random(rnd)
		q, l := turned(rnd, p)
		if v := valid.Check(p, q, l); v != (api.Verdict{At: len(l)}) {
			t.Fatal(lang.Text(p), l, v)
		}
		first, e := behave.Of(p, domain)
		second, f := behave.Of(q, domain)
		code, _ := lower.Lower(q)
		graphs, g := pgraph.All(code, domain)
		if e != api.OK || f != api.OK || g != api.OK {
			continue
		}
		some++
		if !mem.In(second, first) {
			t.Error("T2", lang.Text(p), l)
		}
		for i := 0; i < len(graphs); i += 1 + len(graphs)/300 {
			x := graphs[i]
			if !power.Consistent(x) {
				continue
			}
			executions++
			if !mem.Has(first, mem.Final(x)) {
				t.Error("T1", lang.Text(p), l, mem.Final(x))
			}
			if y, e := lift.Lift(q, x); e != api.OK || !imm.Consistent(y) || !slices.Equal(mem.Final(x), mem.Final(y)) {
				t.Error("T3", lang.Text(q), x)
			}
		}
	}
	if some < 100 || executions < 1000 {
		t.Error(some, executions)
	}
}

// T4: each program is accepted for itself, each rule with its step; certificates join; the driver's code is the Lower of what was accepted.
func TestNotInVain(t *testing.T) {
	rnd := rand.New(rand.NewSource(2))
	for range 300 {
		p := random(rnd)
		q, l := turned(rnd, p)
		r, m := turned(rnd, q)
		if valid.Check(p, p, nil) != (api.Verdict{}) || valid.Check(q, r, m).Err != api.OK || valid.Check(p, r, append(slices.Clip(l), m...)) != (api.Verdict{At: len(l) + len(m)}) {
			t.Fatal(lang.Text(p), l, m)
		}
		made := p
		for _, s := range l {
			next, _ := rules.Apply(made, s)
			if valid.Check(made, next, []api.Step{s}) != (api.Verdict{At: 1}) {
				t.Fatal(lang.Text(made), s)
			}
			made = next
		}
		d, steps, code, e := drive.Drive(p)
		want, _ := lower.Lower(d)
		if e != api.OK || valid.Check(p, d, steps).Err != api.OK || !reflect.DeepEqual(code, want) {
			t.Fatal(lang.Text(p), e)
		}
		s := "p " + word(lang.Text(p)) + "\nq " + word(lang.Text(d)) + "\ncert " + strings.TrimSuffix(word(cert.Text(steps)), ";") + "\ncheck\nopt\ncode q"
		if len(steps) == 0 {
			s = strings.Replace(s, "cert ", "cert", 1)
		}
		if said := run(t, s); said != "ok\nok\nok\nok\n"+lang.Text(d)+asm.Text(code) {
			t.Fatal(s, said)
		}
	}
}

// T5: any bytes: an answer, or an error; with an error no code.
func TestToTheEnd(t *testing.T) {
	rnd := rand.New(rand.NewSource(3))
	parts := []string{"p ", "q ", "cert ", "check\n", "imm\n", "imm q\n", "power\n", "power q\n", "code\n", "code q\n", "opt\n", "\n", " ", ";", "_", "#", "\x00", "é", "locs_2;thread;", "locs_1", "thread;", "store_x_rlx_1;", "r1_=_load_x_acq;", "skip_1_r1;", "r1_=_faa_x_acq_rel_1;", "fence_sc;", "store_y_rel_r1", "swap_0_0_rlx", "insert_0_0_sc", "fold_0_0_rlx;", "5", "-1", "+"}
	for range 3000 {
		s := ""
		for range rnd.Intn(30) {
			s += parts[rnd.Intn(len(parts))]
		}
		said, e := sheet.Run(s)
		if e != api.OK || said != "" && !strings.HasSuffix(said, "\n") {
			t.Errorf("%q: %q %d", s, said, e)
		}
		for _, f := range []func() (string, api.Errno){func() (string, api.Errno) { return drive.Compile(s) }, func() (string, api.Errno) {
			return drive.Checked("locs 1\nthread", s, s)
		}, func() (string, api.Errno) { return drive.Checked(s, s, "") }} {
			if code, e := f(); e != api.OK && code != "" || e < api.OK || e > api.ErrLine {
				t.Errorf("%q: %q %d", s, code, e)
			}
		}
	}
}
