package rules_test

import (
	"math"
	"math/rand"
	"reflect"
	"slices"
	"strings"
	"testing"

	"exegesis/api"
	"exegesis/behave"
	"exegesis/lang"
	"exegesis/mem"
	"exegesis/rules"
	"exegesis/sample"
	"exegesis/sound"
)

// thread is a program of one thread; it has all locations.
func thread(s string) api.Prog { return sample.Program("locs 4; thread; " + s) }

func said(p api.Prog) string {
	s := strings.TrimPrefix(lang.Text(p), "locs 4\nthread\n")
	return strings.ReplaceAll(strings.TrimSuffix(s, "\n"), "\n", "; ")
}

// P24.1
func TestTargetsJoin(t *testing.T) {
	l := thread("skip 3 1; skip 0 1; skip 1 2; fence sc; r1 = load x rlx; skip 0 1").Threads[0]
	if got := rules.Targets(l); !slices.Equal(got, []int{2, 4, 6}) {
		t.Error(got)
	}
	if len(rules.Targets(nil)) != 0 || len(rules.Targets(l[3:5])) != 0 {
		t.Error("no targets")
	}
	rules.Targets([]api.Instr{{Kind: api.Skip, N: math.MaxInt}, {Kind: api.Skip, N: math.MinInt}})
	want := [][]int{{1, 3, 3, 4}, {3, 2, 3, 4}, {3, 3, 3, 4}, {4, 4, 4, 4}}
	for a := -2; a < 8; a++ {
		for b := -2; b < 8; b++ {
			w := 0
			if a >= 1 && a <= 4 && b >= 1 && b <= 4 {
				w = want[a-1][b-1]
			}
			if rules.Join(a, b) != w {
				t.Error(a, b, rules.Join(a, b))
			}
		}
	}
}

// P24.2, P24.3: a step at a place, and what becomes of it; empty, if it may not be taken.
func TestSteps(t *testing.T) {
	for _, x := range []struct {
		p        string
		rule     int
		at, mode int
		q        string
	}{
		{"store x rlx 1; store y rlx 2", api.Swap, 0, 0, "store y rlx 2; store x rlx 1"},
		{"store x rlx 1; store x rlx 2", api.Swap, 0, 0, ""}, {"store x rel 1; store y rlx 2", api.Swap, 0, 0, "store y rlx 2; store x rel 1"}, {"store x rlx 1; store y rel 2", api.Swap, 0, 0, ""}, {"store x rlx 1; store y rlx 2", api.Swap, 0, 1, ""}, {"store x rlx 1; store y rlx 2", api.Swap, 1, 0, ""}, {"store x rlx 1; store y rlx 2", api.Swap, -1, 0, ""}, {"store x rlx 1; store y rlx 2", api.Swap, math.MaxInt, 0, ""}, {"store x rlx 1", api.Swap, 0, 0, ""},
		{"r1 = load x rlx; r2 = load y rlx", api.Swap, 0, 0, "r2 = load y rlx; r1 = load x rlx"}, {"r1 = load x rlx; r2 = load x rlx", api.Swap, 0, 0, ""}, {"r1 = load x acq; r2 = load y rlx", api.Swap, 0, 0, ""}, {"r1 = load x rlx; r2 = load y acq", api.Swap, 0, 0, "r2 = load y acq; r1 = load x rlx"}, {"r1 = load x rlx; r1 = load y rlx", api.Swap, 0, 0, ""},
		{"r1 = load x rlx; store y rlx r1", api.Swap, 0, 0, ""}, {"r1 = load x rlx; store y rlx r2", api.Swap, 0, 0, "store y rlx r2; r1 = load x rlx"}, {"store y rlx r1; r1 = load x rlx", api.Swap, 0, 0, ""}, {"store y rlx r2; r1 = load x rlx", api.Swap, 0, 0, "r1 = load x rlx; store y rlx r2"}, {"store y rel r2; r1 = load x acq", api.Swap, 0, 0, "r1 = load x acq; store y rel r2"},
		{"r0 = load x rlx; store y rlx r0", api.Swap, 0, 0, ""}, {"r0 = load x rlx; r0 = load y rlx", api.Swap, 0, 0, ""}, {"r1 = r0; r0 = load x rlx", api.Swap, 0, 0, ""},
		{"r1 = load x rlx; r2 = 1", api.Swap, 0, 0, "r2 = 1; r1 = load x rlx"}, {"r1 = load x rlx; r2 = r1", api.Swap, 0, 0, ""}, {"r1 = load x rlx; r1 = 1", api.Swap, 0, 0, ""}, {"r2 = r1; r1 = load x rlx", api.Swap, 0, 0, ""}, {"r1 = load x acq; r2 = 1", api.Swap, 0, 0, "r2 = 1; r1 = load x acq"}, {"r2 = 1; store x rel r3", api.Swap, 0, 0, "store x rel r3; r2 = 1"}, {"r2 = 1; r3 = 2", api.Swap, 0, 0, "r3 = 2; r2 = 1"}, {"r2 = 1; r3 = r2", api.Swap, 0, 0, ""}, {"r2 = r3; r3 = 1", api.Swap, 0, 0, ""}, {"r2 = r2; r2 = r2", api.Swap, 0, 0, ""},
		{"r1 = faa x rlx rlx 1; r2 = 1", api.Swap, 0, 0, "r2 = 1; r1 = faa x rlx rlx 1"}, {"r1 = faa x rlx rlx 1; r2 = load y rlx", api.Swap, 0, 0, ""}, {"r2 = load y rlx; r1 = faa x rlx rlx 1", api.Swap, 0, 0, "r1 = faa x rlx rlx 1; r2 = load y rlx"}, {"r2 = load y rlx; r1 = faa x acq rlx 1", api.Swap, 0, 0, "r1 = faa x acq rlx 1; r2 = load y rlx"}, {"r2 = load y rlx; r1 = faa x rlx rel 1", api.Swap, 0, 0, ""}, {"r2 = load x rlx; r1 = faa x rlx rlx 1", api.Swap, 0, 0, ""}, {"r1 = faa x acq rel 1; r2 = 1", api.Swap, 0, 0, "r2 = 1; r1 = faa x acq rel 1"},
		{"r2 = load y rlx; r1 = faa x rlx rlx r2", api.Swap, 0, 0, ""}, {"r1 = faa x rlx rlx r2; r2 = 1", api.Swap, 0, 0, ""}, {"r1 = faa x rlx rlx r2; r3 = 1", api.Swap, 0, 0, "r3 = 1; r1 = faa x rlx rlx r2"},
		{"fence sc; store y rlx 2", api.Swap, 0, 0, ""}, {"store y rlx 2; fence acq", api.Swap, 0, 0, ""}, {"skip 0 1; store y rlx 2", api.Swap, 0, 0, ""}, {"store y rlx 2; skip 0 1", api.Swap, 0, 0, ""}, {"r1 = 1; skip 0 1", api.Swap, 0, 0, ""},
		{"skip 1 r1; store x rlx 1; store y rlx 2", api.Swap, 1, 0, ""}, {"skip 2 r1; store x rlx 1; store y rlx 2", api.Swap, 1, 0, "skip 2 r1; store y rlx 2; store x rlx 1"}, {"skip 0 r1; store x rlx 1; store y rlx 2", api.Swap, 1, 0, "skip 0 r1; store y rlx 2; store x rlx 1"},

		{"store x rlx 1; store x rlx 2", api.DropWrite, 0, 0, "store x rlx 2"}, {"store x rlx 1; store x rel r2", api.DropWrite, 0, 0, "store x rel r2"}, {"store x rel 1; store x rel 2", api.DropWrite, 0, 0, "store x rel 2"}, {"store x rel 1; store x rlx 2", api.DropWrite, 0, 0, ""}, {"store x rlx r1; store x rlx 2", api.DropWrite, 0, 0, ""}, {"store x rlx 1 2 +; store x rlx 2", api.DropWrite, 0, 0, "store x rlx 2"}, {"store x rlx 1; store y rlx 2", api.DropWrite, 0, 0, ""}, {"store x rlx 1; r1 = load x rlx", api.DropWrite, 0, 0, ""}, {"store x rlx 1; r1 = faa x rlx rlx 1", api.DropWrite, 0, 0, ""}, {"store x rlx 1; store x rlx 2", api.DropWrite, 0, 2, ""}, {"store x rlx 1; fence sc; store x rlx 2", api.DropWrite, 0, 0, ""},
		{"skip 1 r1; store x rlx 1; store x rlx 2", api.DropWrite, 1, 0, ""}, {"skip 0 r1; store x rlx 1; store x rlx 2; fence sc", api.DropWrite, 1, 0, "skip 0 r1; store x rlx 2; fence sc"}, {"skip 2 r1; store x rlx 1; store x rlx 2; fence sc", api.DropWrite, 1, 0, "skip 1 r1; store x rlx 2; fence sc"}, {"skip 3 r1; store x rlx 1; store x rlx 2; fence sc", api.DropWrite, 1, 0, "skip 2 r1; store x rlx 2; fence sc"}, {"store x rlx 1; store x rlx 2; skip 1 r1; fence sc", api.DropWrite, 0, 0, "store x rlx 2; skip 1 r1; fence sc"}, {"skip 4 r1; skip 0 r1; store x rlx 1; store x rlx 2; fence sc", api.DropWrite, 2, 0, "skip 3 r1; skip 0 r1; store x rlx 2; fence sc"},

		{"store x rlx r1 1 +; r2 = load x rlx", api.ReadWrite, 0, 0, "store x rlx r1 1 +; r2 = r1 1 +"}, {"store x rel r1; r1 = load x rlx", api.ReadWrite, 0, 0, "store x rel r1; r1 = r1"}, {"store x rlx 1; r2 = load x acq", api.ReadWrite, 0, 0, ""}, {"store x rlx 1; r2 = load y rlx", api.ReadWrite, 0, 0, ""}, {"r1 = load x rlx; store x rlx 1", api.ReadWrite, 0, 0, ""}, {"store x rlx 1; r1 = faa x rlx rlx 1", api.ReadWrite, 0, 0, ""}, {"store x rlx 1; r2 = load x rlx", api.ReadWrite, 0, 1, ""}, {"skip 1 r1; store x rlx 1; r2 = load x rlx", api.ReadWrite, 1, 0, ""}, {"store x rlx 1", api.ReadWrite, 0, 0, ""},

		{"r1 = load x rlx; r2 = load x rlx", api.ReadRead, 0, 0, "r1 = load x rlx; r2 = r1"}, {"r1 = load x acq; r1 = load x rlx", api.ReadRead, 0, 0, "r1 = load x acq; r1 = r1"}, {"r1 = load x rlx; r2 = load x acq", api.ReadRead, 0, 0, ""}, {"r1 = load x rlx; r2 = load y rlx", api.ReadRead, 0, 0, ""}, {"r1 = faa x rlx rlx 1; r2 = load x rlx", api.ReadRead, 0, 0, ""}, {"r1 = load x rlx; r2 = load x rlx", api.ReadRead, 0, 4, ""}, {"skip 1 r1; r1 = load x rlx; r2 = load x rlx", api.ReadRead, 1, 0, ""},

		{"fence acq; fence rel", api.Merge, 0, 0, "fence acqrel"}, {"fence sc; fence rel", api.Merge, 0, 0, "fence sc"}, {"fence rel; fence rel; store x rlx 1", api.Merge, 0, 0, "fence rel; store x rlx 1"}, {"fence acq; store x rlx 1", api.Merge, 0, 0, ""}, {"fence acq; fence rel", api.Merge, 0, 1, ""}, {"skip 1 r1; fence acq; fence rel", api.Merge, 1, 0, ""}, {"skip 2 r1; fence acq; fence rel", api.Merge, 1, 0, "skip 1 r1; fence acqrel"}, {"fence acq", api.Merge, 0, 0, ""},

		{"r1 = load x rlx", api.Strengthen, 0, api.Acq, "r1 = load x acq"}, {"r1 = load x acq", api.Strengthen, 0, api.Acq, ""}, {"r1 = load x rlx", api.Strengthen, 0, api.Rel, ""}, {"r1 = load x rlx", api.Strengthen, 0, 0, ""}, {"r1 = load x rlx", api.Strengthen, 0, api.SC, ""},
		{"store x rlx 1", api.Strengthen, 0, api.Rel, "store x rel 1"}, {"store x rlx 1", api.Strengthen, 0, api.Acq, ""}, {"store x rel 1", api.Strengthen, 0, api.Rel, ""},
		{"r1 = faa x rlx rlx 1", api.Strengthen, 0, api.Acq, "r1 = faa x acq rlx 1"}, {"r1 = faa x rlx rlx 1", api.Strengthen, 0, api.Rel, "r1 = faa x rlx rel 1"}, {"r1 = faa x acq rlx 1", api.Strengthen, 0, api.Rel, "r1 = faa x acq rel 1"}, {"r1 = faa x rlx rel 1", api.Strengthen, 0, api.Acq, "r1 = faa x acq rel 1"}, {"r1 = faa x acq rlx 1", api.Strengthen, 0, api.Acq, ""}, {"r1 = faa x rlx rel 1", api.Strengthen, 0, api.Rel, ""}, {"r1 = faa x rlx rlx 1", api.Strengthen, 0, api.AcqRel, ""},
		{"fence acq", api.Strengthen, 0, api.AcqRel, "fence acqrel"}, {"fence acq", api.Strengthen, 0, api.SC, "fence sc"}, {"fence acq", api.Strengthen, 0, api.Rel, ""}, {"fence rel", api.Strengthen, 0, api.Acq, ""}, {"fence acqrel", api.Strengthen, 0, api.Acq, ""}, {"fence acqrel", api.Strengthen, 0, api.SC, "fence sc"}, {"fence sc", api.Strengthen, 0, api.AcqRel, ""}, {"fence sc", api.Strengthen, 0, api.SC, ""}, {"fence acq", api.Strengthen, 0, 5, ""}, {"fence acq", api.Strengthen, 0, 0, ""},
		{"r1 = 1", api.Strengthen, 0, api.Acq, ""}, {"skip 0 1", api.Strengthen, 0, api.Acq, ""}, {"fence acq", api.Strengthen, 1, api.SC, ""}, {"fence acq", api.Strengthen, -1, api.SC, ""},

		{"store x rlx 1", api.Insert, 0, api.SC, "fence sc; store x rlx 1"}, {"store x rlx 1", api.Insert, 1, api.Acq, "store x rlx 1; fence acq"}, {"store x rlx 1", api.Insert, 2, api.Acq, ""}, {"store x rlx 1", api.Insert, -1, api.Acq, ""}, {"store x rlx 1", api.Insert, 0, 0, ""}, {"store x rlx 1", api.Insert, 0, 5, ""}, {"r1 = 1", api.Insert, math.MinInt, api.SC, ""},
		{"skip 1 r1; store x rlx 1; store y rlx 2", api.Insert, 1, api.Rel, "skip 2 r1; fence rel; store x rlx 1; store y rlx 2"}, {"skip 1 r1; store x rlx 1; store y rlx 2", api.Insert, 2, api.Rel, "skip 1 r1; store x rlx 1; fence rel; store y rlx 2"}, {"skip 1 r1; store x rlx 1; store y rlx 2", api.Insert, 3, api.Rel, "skip 1 r1; store x rlx 1; store y rlx 2; fence rel"}, {"skip 1 r1; store x rlx 1; store y rlx 2", api.Insert, 0, api.Rel, "fence rel; skip 1 r1; store x rlx 1; store y rlx 2"}, {"skip 0 r1; store x rlx 1", api.Insert, 1, api.Rel, "skip 0 r1; fence rel; store x rlx 1"},

		{"r1 = 1 2 +", api.Fold, 0, 0, "r1 = 3"}, {"store x rel 3 4 *", api.Fold, 0, 0, "store x rel 12"}, {"r1 = faa x rlx rlx 1 2 -", api.Fold, 0, 0, "r1 = faa x rlx rlx -1"}, {"skip 0 1 2 <", api.Fold, 0, 0, "skip 0 1"}, {"r1 = 3", api.Fold, 0, 0, ""}, {"r1 = r2 0 *", api.Fold, 0, 0, ""}, {"r1 = 2147483647 1 +", api.Fold, 0, 0, ""}, {"r1 = 2147483646 1 +", api.Fold, 0, 0, "r1 = 2147483647"}, {"r1 = -2147483648 1 -", api.Fold, 0, 0, ""}, {"r1 = -2147483647 1 -", api.Fold, 0, 0, "r1 = -2147483648"}, {"r1 = 1 2 +", api.Fold, 0, 1, ""}, {"r1 = 1 2 +", api.Fold, 1, 0, ""}, {"r1 = 1 2 +", api.Fold, -1, 0, ""}, {"fence sc", api.Fold, 0, 0, ""}, {"r1 = load x rlx", api.Fold, 0, 0, ""},

		{"fence acq; fence rel", 0, 0, 0, ""}, {"fence acq; fence rel", 9, 0, 0, ""}, {"fence acq; fence rel", -1, 0, 0, ""}, {"fence acq; fence rel", math.MaxInt, 0, 0, ""},
	} {
		p := thread(x.p)
		s := api.Step{Rule: x.rule, At: x.at, Mode: x.mode}
		q, e := rules.Apply(p, s)
		want, errno := x.q, api.OK
		if x.q == "" {
			want, errno = x.p, api.ErrRule
		}
		if rules.Can(p, s) != (x.q != "") || e != errno || said(q) != want || said(p) != x.p {
			t.Errorf("%s: %v: %s %d", x.p, s, said(q), e)
		}
		for _, n := range []int{-1, 1, math.MaxInt} {
			s.Thread = n
			if q, e := rules.Apply(p, s); rules.Can(p, s) || e != api.ErrRule || said(q) != x.p {
				t.Error(x.p, s)
			}
		}
	}
}

// P24.3: the thread is the one that is named; errors.
func TestApply(t *testing.T) {
	p := sample.Program("locs 1; thread; fence acq; thread; fence acq; fence rel; thread; fence acq")
	q, e := rules.Apply(p, api.Step{Rule: api.Merge, Thread: 1})
	if e != api.OK || lang.Text(q) != "locs 1\nthread\nfence acq\nthread\nfence acqrel\nthread\nfence acq\n" {
		t.Error(lang.Text(q), e)
	}
	for i := range q.Threads {
		for j := range q.Threads[i] {
			q.Threads[i][j].Mode = api.SC
		}
	}
	if lang.Text(p) != "locs 1\nthread\nfence acq\nthread\nfence acq\nfence rel\nthread\nfence acq\n" {
		t.Error("shared")
	}
	q, _ = rules.Apply(thread("store x rlx r1; r2 = load x rlx"), api.Step{Rule: api.ReadWrite})
	if q.Threads[0][0].E[0].V = 7; q.Threads[0][1].E[0].V != 1 {
		t.Error("two lists of an answer are shared")
	}
	many := thread(strings.TrimSuffix(strings.Repeat("r1 = 1; ", 12), "; "))
	insert := api.Step{Rule: api.Insert, Mode: api.SC}
	if q, e := rules.Apply(many, insert); !rules.Can(many, insert) || e != api.ErrBig || !reflect.DeepEqual(q, many) {
		t.Error("too long", e)
	}
	for _, p := range []api.Prog{{}, {Locs: 1, Threads: make([][]api.Instr, 5)}, {Locs: 1, Threads: [][]api.Instr{{{Kind: api.Fence}}}}} {
		if q, e := rules.Apply(p, insert); rules.Can(p, insert) || e != api.ErrForm || q.Locs != p.Locs || len(q.Threads) != len(p.Threads) {
			t.Error(p, e)
		}
	}
}

// P24.4, T2: of programs at random, each end that there is behind a step was there ahead of it.
func TestTheorem(t *testing.T) {
	rnd := rand.New(rand.NewSource(1))
	lines := strings.Split("r1 = load x rlx; r2 = load x rlx; r2 = load y rlx; r1 = load y acq; store x rlx 1; store x rlx 1 1 +; store x rlx r1; store y rlx 1; store y rlx r2; store y rel r1; store x rel 1; fence acq; fence rel; fence sc; r1 = faa x rlx rlx 1; r2 = faa x rlx rlx r1; r2 = faa y acq rel 1; r2 = 1; r1 = r2; skip 1 r1; skip 2 r2", "; ")
	taken := map[int]int{}
	for range 2600 {
		p := api.Prog{Locs: 2, Threads: make([][]api.Instr, 2+rnd.Intn(2))}
		for range 3 + rnd.Intn(4) {
			at := rnd.Intn(len(p.Threads))
			i, _ := lang.ParseLine(lines[rnd.Intn(len(lines))])
			p.Threads[at] = append(p.Threads[at], i)
		}
		if sound.Check(p) != api.OK {
			continue
		}
		l := steps(p)
		if len(l) == 0 {
			continue
		}
		s := l[rnd.Intn(len(l))]
		q, _ := rules.Apply(p, s)
		domain := []int{0, 1, 2, 3, 4, 5}
		a, e := behave.Of(p, domain)
		b, f := behave.Of(q, domain)
		if e != api.OK || f != api.OK {
			continue
		}
		taken[s.Rule]++
		if !mem.In(b, a) {
			t.Error(lang.Text(p), s, a, b)
		}
	}
	for rule := api.Swap; rule <= api.Fold; rule++ {
		if taken[rule] < 20 {
			t.Error("too few", rule, taken[rule])
		}
	}
}

// steps is all that may be taken, but few of the kinds that may be taken anywhere.
func steps(p api.Prog) []api.Step {
	var l []api.Step
	for t := range p.Threads {
		for at := range p.Threads[t] {
			for rule := api.Swap; rule <= api.Fold; rule++ {
				for mode := range 5 {
					s := api.Step{Rule: rule, Thread: t, At: at, Mode: mode}
					if rules.Can(p, s) && (rule != api.Insert && rule != api.Strengthen || mode == 2 && at == 1) {
						l = append(l, s)
					}
				}
			}
		}
	}
	return l
}
