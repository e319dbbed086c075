package drive_test

import (
	"math"
	"math/rand"
	"reflect"
	"strings"
	"testing"

	"exegesis/api"
	"exegesis/asm"
	"exegesis/behave"
	"exegesis/drive"
	"exegesis/lang"
	"exegesis/lower"
	"exegesis/mem"
	"exegesis/pgraph"
	"exegesis/power"
	"exegesis/sample"
	"exegesis/sound"
	"exegesis/valid"
)

func lines(s string) string { return strings.ReplaceAll(s, "; ", "\n") }

const grown = "locs 1; thread; r1 = load x rlx; r1 = r1 r1 *; r1 = r1 r1 *; r1 = r1 r1 *; r1 = r1 r1 *; r1 = r1 r1 *"

// P27.1
func TestDrive(t *testing.T) {
	for _, x := range []struct {
		p api.Prog
		e api.Errno
	}{
		{api.Prog{}, api.ErrForm}, {api.Prog{Locs: math.MaxInt}, api.ErrForm}, {api.Prog{Locs: 1, Threads: make([][]api.Instr, 5)}, api.ErrBig}, {sample.Program("locs 1; thread; store x acq 1"), api.ErrForm}, {sample.Program(grown), api.ErrBig},
		// Fold would make these Paths small.
		{sample.Program(grown + "; store x rlx 1 1 +"), api.ErrBig},
	} {
		q, l, c, e := drive.Drive(x.p)
		if e != x.e || len(l) != 0 || !reflect.DeepEqual(q, api.Prog{}) || !reflect.DeepEqual(c, api.PProg{}) {
			t.Error(x, q, l, c, e)
		}
		drive.Optimise(x.p)
	}
	p := sample.Program("locs 2; thread; store x rlx 1 1 +; store x rlx 3; r1 = load x rlx; fence acq; fence rel; store y rlx r1; thread; r1 = load y acq; r2 = load y rlx; store x rlx r1 r2 +")
	q, l, c, e := drive.Drive(p)
	if e != api.OK || valid.Check(p, q, l) != (api.Verdict{At: len(l)}) {
		t.Error(lang.Text(q), l, e)
	}
	if code, e := lower.Lower(q); e != api.OK || !reflect.DeepEqual(code, c) {
		t.Error(asm.Text(c))
	}
	if len(l) < 5 {
		t.Error("the optimiser does nothing", l, lang.Text(q))
	}
}

// P27.1: what the optimiser is good for.
func TestOptimise(t *testing.T) {
	for _, x := range []struct{ p, q string }{
		{"locs 1; thread", "locs 1; thread"},
		{"locs 1; thread; store x rlx 1 2 +", "locs 1; thread; store x rlx 3"},
		{"locs 1; thread; store x rlx 1; store x rel 2", "locs 1; thread; store x rel 2"},
		{"locs 1; thread; fence acq; fence rel; fence acq", "locs 1; thread; fence acqrel"},
		{"locs 1; thread; store x rlx 1; r1 = load x rlx", "locs 1; thread; store x rlx 1"},
		{"locs 1; thread; r1 = 5; r2 = load x rlx; skip 2 r2; r3 = r1; fence sc; store x rlx 1", "locs 1; thread; r2 = load x rlx; skip 1 r2; fence sc; store x rlx 1"},
		{"locs 1; thread; r2 = load x rlx; skip 1 r2; fence sc; r3 = 1; store x rlx 1", "locs 1; thread; r2 = load x rlx; skip 1 r2; fence sc; store x rlx 1"},
		{"locs 1; thread; r2 = load x rlx; skip 0 r2; r3 = 1; store x rlx 1", "locs 1; thread; r2 = load x rlx; skip 0 r2; store x rlx 1"},
		{"locs 2; thread; r1 = load x rlx; r2 = 7; store y rlx r1 r2 +", "locs 2; thread; r1 = load x rlx; r2 = 7; store y rlx r1 r2 +"},
	} {
		q, l := drive.Optimise(sample.Program(x.p))
		if !reflect.DeepEqual(lang.Text(q), lang.Text(sample.Program(x.q))) || valid.Check(sample.Program(x.p), q, l).Err != api.OK {
			t.Errorf("%s: %q %v", x.p, lang.Text(q), l)
		}
	}
	// More steps than a certificate may have.
	much := sample.Program("locs 1" + strings.Repeat("; thread"+strings.Repeat("; store x rlx 1 1 +; fence sc", 4), 4))
	if q, l := drive.Optimise(much); len(l) != 16 || valid.Check(much, q, l).Err != api.OK {
		t.Error(lang.Text(q), l)
	}
	much = sample.Program("locs 1" + strings.Repeat("; thread"+strings.Repeat("; store x rlx 1 1 +; fence acq", 4)+strings.Repeat("; skip 0 1 1 +", 4), 4))
	if q, l := drive.Optimise(much); len(l) != api.MaxSteps || valid.Check(much, q, l).Err != api.OK {
		t.Error(lang.Text(q), l)
	}
	// What is stored is so great that it may not stand in a register behind it.
	great := "locs 2; thread; r1 = load x rlx; r1 = r1 r1 *; r1 = r1 r1 *; r1 = r1 r1 *; store x rlx r1 r1 * r1 * 5 *; r2 = load x rlx; store y rlx r2 r1 *"
	p := sample.Program(great)
	q, l := drive.Optimise(p)
	if valid.Match(p, p) != api.OK || valid.Check(p, q, l).Err != api.OK {
		t.Error(lang.Text(q), l)
	}
}

// P27.1
func TestCompile(t *testing.T) {
	for _, x := range []struct {
		s, code string
		e       api.Errno
	}{
		{"locs 2; thread; store x rlx 1; store y rel 1; thread; r1 = load y acq; r2 = load x rlx", "locs 2; thread; st x 1; lwsync; st y 1; thread; ld r1 y; bc 0 r1; isync; ld r2 x; ", api.OK},
		{"locs 1; thread; r1 = faa x rlx rlx 1 1 +; fence sc", "locs 1; thread; larx r1 x; stcx x r1 2 +; bc 0 r1; sync; ", api.OK},
		{"locs 1; thread", "locs 1; thread; ", api.OK}, {"", "", api.ErrText}, {"locs 1", "", api.ErrForm}, {"locs 1; thread; store x acq 1", "", api.ErrForm}, {"locs 1; thread; thread; thread; thread; thread", "", api.ErrBig}, {grown, "", api.ErrBig}, {strings.Repeat("; ", 4001), "", api.ErrBig}, {"what", "", api.ErrText},
	} {
		code, e := drive.Compile(lines(x.s))
		if code != lines(x.code) || e != x.e {
			t.Errorf("%.60q: %q %d", x.s, code, e)
		}
	}
}

// P27.1
func TestChecked(t *testing.T) {
	const p, q = "locs 2; thread; store x rlx 1; store y rlx 2", "locs 2; thread; store y rlx 2; store x rlx 1"
	big := strings.Repeat("; ", 4001)
	for _, x := range []struct {
		p, q, l, code string
		e             api.Errno
	}{
		{p, q, "swap 0 0 rlx; ", "locs 2; thread; st y 2; st x 1; ", api.OK}, {p, p, "", "locs 2; thread; st x 1; st y 2; ", api.OK}, {p, q, "", "", api.ErrMatch}, {p, q, "swap 0 1 rlx; ", "", api.ErrRule}, {p, q, "swap 0 0 rlx", "", api.ErrText}, {p, q, "swop 0 0 rlx; ", "", api.ErrText},
		{"", q, "", "", api.ErrText}, {p, "x", "", "", api.ErrText}, {big, "x", "x", "", api.ErrBig}, {"x", big, "x", "", api.ErrText}, {p, big, "x", "", api.ErrBig}, {"locs 1", q, "x", "", api.ErrText}, {"locs 1", q, "", "", api.ErrForm}, {p, "locs 1", "", "", api.ErrForm}, {p, "locs 1; thread; thread; thread; thread; thread", "", "", api.ErrBig},
		{grown, grown, "", "", api.ErrBig}, {p, p, strings.Repeat("insert 0 0 sc; ", 11), "", api.ErrBig}, {p, "locs 1; thread", "", "", api.ErrMatch},
		{"locs 1; thread; r1 = load x rlx; store x rlx r1", "locs 1; thread; r7 = load x rlx; store x rlx r7", "", "locs 1; thread; ld r7 x; st x r7; ", api.OK},
	} {
		code, e := drive.Checked(lines(x.p), lines(x.q), lines(x.l))
		if code != lines(x.code) || e != x.e {
			t.Errorf("%.60q %.60q %.60q: %q %d", x.p, x.q, x.l, code, e)
		}
	}
}

// P27.2, T4: for each program that may be: what Optimise makes is accepted and no longer; the code is its Lower.
func TestTheorem(t *testing.T) {
	rnd := rand.New(rand.NewSource(1))
	all := strings.Split("r1 = load x rlx; r2 = load x rlx; r2 = load y rlx; r1 = load y acq; store x rlx 1; store x rlx 1 1 +; store x rlx r1; store y rlx r1 r2 * 3 +; store y rel r1; store x rel 1; fence acq; fence rel; fence sc; r1 = faa x rlx rlx 1 1 +; r2 = faa x rlx rlx r1; r2 = faa y acq rel 1; r2 = 1; r1 = r2; r1 = r1 r2 *; r1 = r1 r1 *; skip 1 r1; skip 2 r2; skip 3 1 1 -", "; ")
	seen := map[api.Errno]int{}
	for range 1500 {
		p := api.Prog{Locs: 2, Threads: make([][]api.Instr, 1+rnd.Intn(3))}
		if rnd.Intn(9) == 0 {
			p.Threads[0] = sample.Program(grown).Threads[0][rnd.Intn(3):]
		}
		for range rnd.Intn(24) {
			at := rnd.Intn(len(p.Threads))
			i, _ := lang.ParseLine(all[rnd.Intn(len(all))])
			p.Threads[at] = append(p.Threads[at], i)
		}
		if sound.Check(p) != api.OK {
			continue
		}
		text := lang.Text(p)
		q, l, c, e := drive.Drive(p)
		seen[e]++
		if e != valid.Check(p, p, nil).Err {
			t.Fatal(text, e)
		}
		if e != api.OK {
			continue
		}
		code, _ := lower.Lower(q)
		made, steps := drive.Optimise(p)
		if valid.Check(p, q, l).Err != api.OK || !reflect.DeepEqual(code, c) || !reflect.DeepEqual(made, q) || !reflect.DeepEqual(steps, l) || lang.Text(p) != text {
			t.Fatal(text, lang.Text(q), l)
		}
		for at := range p.Threads {
			if len(q.Threads[at]) > len(p.Threads[at]) {
				t.Fatal(text, lang.Text(q))
			}
		}
		if len(lang.Text(q)) > len(text) {
			t.Fatal(text, lang.Text(q))
		}
		if compiled, e := drive.Compile(text); e != api.OK || compiled != asm.Text(c) {
			t.Fatal(text, compiled)
		}
	}
	if seen[api.OK] < 300 || seen[api.ErrBig] < 5 {
		t.Error(seen)
	}
}

// T1: each end that the code can have by POWER, the program can have by IMM.
func TestWhole(t *testing.T) {
	rnd := rand.New(rand.NewSource(2))
	all := strings.Split("r1 = load x rlx; r2 = load x rlx; r2 = load y rlx; r1 = load y acq; store x rlx 1; store x rlx 1 1 +; store x rlx r1; store y rlx 1; store y rel r1; store x rel 1; fence acq; fence rel; fence sc; r1 = faa x rlx rlx 1; r2 = faa x rlx rlx r1; r2 = 1; skip 1 r1", "; ")
	some, less := 0, 0
	for range 300 {
		p := api.Prog{Locs: 2, Threads: make([][]api.Instr, 2)}
		for range 3 + rnd.Intn(4) {
			at := rnd.Intn(len(p.Threads))
			i, _ := lang.ParseLine(all[rnd.Intn(len(all))])
			p.Threads[at] = append(p.Threads[at], i)
		}
		domain := []int{0, 1, 2, 3, 4}
		may, e := behave.Of(p, domain)
		_, l, code, f := drive.Drive(p)
		graphs, g := pgraph.All(code, domain)
		if e != api.OK || f != api.OK || g != api.OK {
			continue
		}
		some++
		if len(l) > 0 {
			less++
		}
		for _, x := range graphs {
			if power.Consistent(x) && !mem.Has(may, mem.Final(x)) {
				t.Fatal(lang.Text(p), asm.Text(code), mem.Final(x), may)
			}
		}
	}
	if some < 100 || less < 20 {
		t.Error(some, less)
	}
}
