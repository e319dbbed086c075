package cert_test

import (
	"math"
	"math/rand"
	"reflect"
	"slices"
	"strings"
	"testing"

	"exegesis/api"
	"exegesis/cert"
	"exegesis/lang"
	"exegesis/rules"
	"exegesis/sample"
)

// P25.1
func TestText(t *testing.T) {
	for _, x := range []struct {
		l []api.Step
		s string
	}{
		{nil, ""}, {[]api.Step{{Rule: api.Swap, At: 1}}, "swap 0 1 rlx\n"},
		{[]api.Step{{Rule: api.DropWrite}, {Rule: api.ReadWrite, Thread: 3, At: 11}, {Rule: api.ReadRead, Thread: 99, At: 99, Mode: api.SC}}, "dropwrite 0 0 rlx\nreadwrite 3 11 rlx\nreadread 99 99 sc\n"},
		{[]api.Step{{Rule: api.Merge, Mode: api.Acq}, {Rule: api.Strengthen, Mode: api.Rel}, {Rule: api.Insert, Mode: api.AcqRel}, {Rule: api.Fold, At: 10}}, "merge 0 0 acq\nstrengthen 0 0 rel\ninsert 0 0 acqrel\nfold 0 10 rlx\n"},
		{make20(20), strings.Repeat("swap 0 0 rlx\n", 20)},
	} {
		if s := cert.Text(x.l); s != x.s {
			t.Errorf("%q, not %q", s, x.s)
		}
		if l, ok := cert.Parse(x.s); !ok || !slices.Equal(l, x.l) {
			t.Error(x.s, l, ok)
		}
	}
	for _, l := range [][]api.Step{{{}}, {{Rule: 9}}, {{Rule: -1}}, {{Rule: math.MaxInt}}, {{Rule: 1, Thread: 100}}, {{Rule: 1, Thread: -1}}, {{Rule: 1, At: 100}}, {{Rule: 1, At: -1}}, {{Rule: 1, Mode: 5}}, {{Rule: 1, Mode: -1}}, {{Rule: 1}, {Rule: 1, At: math.MinInt}}, make20(21), make20(1000)} {
		if s := cert.Text(l); s != "" {
			t.Error(l, s)
		}
	}
	for _, s := range []string{"swap 0 1 rlx", "\n", "swap 0 1 rlx\n\n", "\nswap 0 1 rlx\n", "swap 0 1\n", "swap 0 1 rlx x\n", "swap 0 1 rlx \n", " swap 0 1 rlx\n", "swap  0 1 rlx\n", "swap 00 1 rlx\n", "swap 0 01 rlx\n", "swap 100 1 rlx\n", "swap 0 100 rlx\n", "swap -1 0 rlx\n", "swap +1 0 rlx\n", "swap 0 0 relaxed\n", "swap 0 0 ?\n", "swap x 0 rlx\n", "Swap 0 0 rlx\n", "? 0 0 rlx\n", "swaps 0 0 rlx\n", "swap 0 1 rlx\r\n", "swap 0 1 rlx\nswap 0 1 rlx", "#\n", strings.Repeat("swap 0 0 rlx\n", 21), strings.Repeat("swap 0 0 rlx\n", 100000)} {
		if l, ok := cert.Parse(s); ok || len(l) != 0 {
			t.Errorf("%.40q: %v", s, l)
		}
	}
}

func make20(n int) []api.Step {
	l := make([]api.Step, n)
	for i := range l {
		l[i] = api.Step{Rule: api.Swap}
	}
	return l
}

const text = "locs 2; thread; store x rlx 1 1 +; store x rlx 3; fence acq; fence rel"

func steps(s string) []api.Step {
	l, ok := cert.Parse(strings.ReplaceAll(s, "; ", "\n") + "\n")
	if !ok {
		panic(s)
	}
	return l
}

// P25.2
func TestReplay(t *testing.T) {
	p := sample.Program(text)
	for _, x := range []struct {
		l  []api.Step
		q  string
		at int
		e  api.Errno
	}{
		{nil, text, 0, api.OK},
		{steps("fold 0 0 rlx; dropwrite 0 0 rlx; merge 0 1 rlx"), "locs 2; thread; store x rlx 3; fence acqrel", 3, api.OK},
		{steps("fold 0 0 rlx; swap 0 0 rlx; merge 0 1 rlx"), "locs 2; thread; store x rlx 2; store x rlx 3; fence acq; fence rel", 1, api.ErrRule},
		{steps("swap 0 0 rlx"), text, 0, api.ErrRule}, {steps("fold 1 0 rlx"), text, 0, api.ErrRule}, {[]api.Step{{Rule: 77}}, text, 0, api.ErrRule},
		{steps(strings.Repeat("insert 0 0 sc; ", 8) + "insert 0 0 sc"), "locs 2; thread; " + strings.Repeat("fence sc; ", 8) + strings.TrimPrefix(text, "locs 2; thread; "), 8, api.ErrBig},
	} {
		q, at, e := cert.Replay(p, x.l)
		if !reflect.DeepEqual(q, sample.Program(x.q)) || at != x.at || e != x.e {
			t.Error(x, lang.Text(q), at, e)
		}
	}
	if !reflect.DeepEqual(p, sample.Program(text)) {
		t.Error("turned")
	}
	q, _, _ := cert.Replay(p, nil)
	q.Threads[0][0].E[0].V = 9
	q.Threads[0][0], q.Threads[0] = api.Instr{}, nil
	if !reflect.DeepEqual(p, sample.Program(text)) {
		t.Error("shared")
	}
	for _, x := range []struct {
		p api.Prog
		l []api.Step
		e api.Errno
	}{{api.Prog{}, nil, api.ErrForm}, {api.Prog{}, make20(21), api.ErrForm}, {api.Prog{Locs: 1, Threads: make([][]api.Instr, 5)}, nil, api.ErrBig}, {p, make20(21), api.ErrBig}, {p, make20(1000), api.ErrBig}} {
		if q, at, e := cert.Replay(x.p, x.l); !reflect.DeepEqual(q, api.Prog{}) || at != 0 || e != x.e {
			t.Error(x, q, at, e)
		}
	}
	if _, at, e := cert.Replay(p, make20(20)); at != 0 || e != api.ErrRule {
		t.Error("MaxSteps", at, e)
	}
}

// P25.3
func TestJoined(t *testing.T) {
	rnd := rand.New(rand.NewSource(1))
	lines := strings.Split("r1 = load x rlx; r2 = load x rlx; r2 = load y rlx; store x rlx 1; store x rlx 1 1 +; store y rlx r1; fence acq; fence rel; r2 = 1 2 *; skip 1 r1", "; ")
	both := 0
	for range 300 {
		s := "locs 2; thread"
		for range 1 + rnd.Intn(6) {
			s += "; " + lines[rnd.Intn(len(lines))]
		}
		p := sample.Program(s)
		var l []api.Step
		for q := p; len(l) < 8; {
			step := api.Step{Rule: 1 + rnd.Intn(8), At: rnd.Intn(5), Mode: rnd.Intn(5)}
			next, e := rules.Apply(q, step)
			if e == api.OK {
				q = next
				l = append(l, step)
			} else if rnd.Intn(200) == 0 {
				l = append(l, step)
			}
		}
		cut := rnd.Intn(len(l) + 1)
		q, at, e := cert.Replay(p, l)
		a, n, f := cert.Replay(p, l[:cut])
		if f == api.OK {
			b, m, g := cert.Replay(a, l[cut:])
			a, n, f = b, n+m, g
			both++
		}
		if !reflect.DeepEqual(lang.Text(q), lang.Text(a)) || at != n || e != f {
			t.Error(s, l, cut)
		}
	}
	if both < 50 {
		t.Error(both)
	}
}
