package enum_test

import (
	"math"
	"math/rand"
	"reflect"
	"slices"
	"strings"
	"testing"
	"time"

	"exegesis/api"
	"exegesis/enum"
	"exegesis/gen"
	"exegesis/graph"
	"exegesis/lang"
	"exegesis/sample"
	"exegesis/sound"
)

func code(lines ...string) []api.Instr {
	var l []api.Instr
	for _, s := range lines {
		i, ok := lang.ParseLine(s)
		if !ok {
			panic(s)
		}
		l = append(l, i)
	}
	return l
}

// P13.1
func TestValues(t *testing.T) {
	branch := code("r1 = load x rlx", "skip 1 r1", "r2 = load y rlx", "r3 = load z rlx")
	for i, x := range []struct {
		l      []api.Instr
		domain []int
		want   [][]int
	}{
		{nil, nil, [][]int{nil}}, {nil, []int{1, 2}, [][]int{nil}}, {code("store x rlx 1"), nil, [][]int{nil}},
		{code("r1 = load x rlx"), nil, nil}, {code("r1 = load x rlx"), []int{5, -1, 5, 0}, [][]int{{5}, {-1}, {0}}},
		{code("r1 = faa x rlx rlx 1", "r2 = load x rlx"), []int{1, 0}, [][]int{{1, 1}, {1, 0}, {0, 1}, {0, 0}}},
		{branch, []int{0, 1}, [][]int{{0, 0, 0}, {0, 0, 1}, {0, 1, 0}, {0, 1, 1}, {1, 0}, {1, 1}}},
		{branch, []int{1, 0}, [][]int{{1, 1}, {1, 0}, {0, 1, 1}, {0, 1, 0}, {0, 0, 1}, {0, 0, 0}}},
		{code("r1 = load x rlx"), []int{9, 9, 9, 9, 9, 9, 9, 9, 7}, [][]int{{9}}},
		{code("r1 = load x rlx"), []int{8, 7, 6, 5, 4, 3, 2, 1, 0}, [][]int{{8}, {7}, {6}, {5}, {4}, {3}, {2}, {1}}},
		{code("skip 1 1", "r1 = load x rlx"), []int{3}, [][]int{nil}},
	} {
		if l := enum.Values(x.l, x.domain); !slices.EqualFunc(l, x.want, slices.Equal) {
			t.Error(i, l)
		}
	}
}

// plain is All, the long way round: all lists, all sources, all orders.
func plain(p api.Prog, domain []int) []api.Graph {
	lists := [][][]int{nil}
	for _, l := range p.Threads {
		var longer [][][]int
		for _, ahead := range lists {
			for _, v := range enum.Values(l, domain) {
				longer = append(longer, append(slices.Clone(ahead), v))
			}
		}
		lists = longer
	}
	var out []api.Graph
	for _, reads := range lists {
		if len(out) > api.MaxGraphs {
			return out
		}
		g, _ := gen.Skeleton(p, reads)
		var writes [][]int
		for loc := range p.Locs {
			var w []int
			for at, e := range g.Events {
				if e.Kind == api.Write && e.Loc == loc {
					w = append(w, at)
				}
			}
			writes = append(writes, w)
		}
		for _, rf := range froms(g, writes, 0) {
			for _, co := range orders(writes) {
				h := g
				h.Rf, h.Co = rf, co
				if graph.Check(h) && gen.Generated(p, h) == api.OK {
					out = append(out, h)
				}
			}
		}
	}
	return out
}

func froms(g api.Graph, writes [][]int, at int) [][]int {
	if at == len(g.Events) {
		return [][]int{nil}
	}
	from := []int{-1}
	if g.Events[at].Kind == api.Read {
		from = writes[g.Events[at].Loc]
	}
	var out [][]int
	for _, w := range from {
		if w >= 0 && g.Events[w].Value != g.Events[at].Value {
			continue
		}
		for _, rest := range froms(g, writes, at+1) {
			out = append(out, append([]int{w}, rest...))
		}
	}
	return out
}

func orders(writes [][]int) [][][]int {
	if len(writes) == 0 {
		return [][][]int{nil}
	}
	var out [][][]int
	for _, o := range turns(writes[0][1:]) {
		for _, rest := range orders(writes[1:]) {
			out = append(out, append([][]int{append([]int{writes[0][0]}, o...)}, rest...))
		}
	}
	return out
}

func turns(l []int) [][]int {
	if len(l) == 0 {
		return [][]int{nil}
	}
	var out [][]int
	for i, v := range l {
		for _, rest := range turns(slices.Delete(slices.Clone(l), i, i+1)) {
			out = append(out, append([]int{v}, rest...))
		}
	}
	return out
}

// P13.1, P13.2: all graphs, in order, each once.
func TestAllAgainstPlain(t *testing.T) {
	rnd := rand.New(rand.NewSource(1))
	lines := []string{
		"r1 = load x rlx", "r2 = load y acq", "r3 = load x acq", "store x rlx 1", "store y rel r1", "store x rlx r2 r1 +", "store y rlx 2", "r1 = faa x rlx rlx 1", "r2 = faa y acq rel 2", "r1 = faa y rlx rlx r2", "fence sc",
		"skip 1 r1", "skip 1 r2 r1 =", "skip 0 r1", "r1 = r1 1 +", "r2 = 1 r1 -", "skip 2 r3", "store y rlx r1 r1 -",
	}
	domains := [][]int{{0, 1}, {0, 1, 2}, {2, 1, 0}, {1, 2}, {0}, nil, {3, 0, 1, 0, 3}, {1, 0, 5}}
	some, graphs := 0, 0
	for range 4000 {
		p := api.Prog{Locs: 2, Threads: make([][]api.Instr, 1+rnd.Intn(3))}
		for range 1 + rnd.Intn(6) {
			at := rnd.Intn(len(p.Threads))
			p.Threads[at] = append(p.Threads[at], code(lines[rnd.Intn(len(lines))])...)
		}
		if sound.Check(p) != api.OK {
			continue
		}
		domain := domains[rnd.Intn(len(domains))]
		got, e := enum.All(p, domain)
		want := plain(p, domain)
		if len(want) > api.MaxGraphs {
			if e != api.ErrBig {
				t.Fatal(lang.Text(p), domain, e)
			}
			continue
		}
		if e != api.OK || !slices.EqualFunc(got, want, graph.Same) {
			t.Fatal(lang.Text(p), domain, e, len(got), len(want))
		}
		some++
		graphs += len(got)
	}
	if some < 1000 || graphs < 5000 {
		t.Error(some, graphs)
	}
}

// P13.1
func TestErrors(t *testing.T) {
	for _, p := range []api.Prog{{}, {Locs: 1, Threads: make([][]api.Instr, 5)}, {Locs: 1, Threads: [][]api.Instr{{{Kind: api.Load, Loc: 1}}}}, {Locs: math.MaxInt}} {
		if l, e := enum.All(p, []int{0}); e != api.ErrForm || len(l) != 0 {
			t.Error(p, e)
		}
	}
	if l, e := enum.All(sample.Program("locs 1; thread; r1 = load x rlx"), []int{0, 1}); e != api.OK || len(l) != 1 {
		t.Error("a read of a location that is never written", l, e)
	}
	if l, e := enum.All(sample.Program("locs 4; thread"), nil); e != api.OK || len(l) != 1 || len(l[0].Events) != 4 {
		t.Error("the first writes", l, e)
	}
	if l, e := enum.All(sample.Program("locs 1; thread; r1 = load x rlx"), []int{1, 2}); e != api.OK || len(l) != 0 {
		t.Error("a read of what nobody writes", l, e)
	}
}

// P13.1: MaxGraphs.
func TestBig(t *testing.T) {
	// 7! orders, and reads of 1 from one of 3 writes, or of others from one.
	for _, x := range []struct {
		text string
		n    int
	}{
		{"locs 1; thread; store x rlx 1; store x rlx 2; store x rlx 3; store x rlx 4; store x rlx 5; store x rlx 6; store x rlx 7", 5040},
		{"locs 2; thread; store x rlx 1; store x rlx 2; store x rlx 3; store x rlx 4; store x rlx 5; store x rlx 6; store x rlx 7; store y rlx 1; store y rlx 2; thread; r1 = load y rlx", 20160 / 2 * 3},
		{"locs 1; thread; store x rlx 1; store x rlx 2; store x rlx 3; store x rlx 4; store x rlx 5; store x rlx 6; store x rlx 7; store x rlx 8", 40320},
		{"locs 3; thread; store x rlx 1; store x rlx 2; store x rlx 3; store x rlx 4; thread; store y rlx 1; store y rlx 2; store y rlx 3; store y rlx 4; thread; r1 = load y rlx; r2 = load x rlx; store z rlx 1", 24 * 24 * 25},
		{"locs 4; thread; store x rlx 1; store x rlx 2; store x rlx 3; store x rlx 4; thread; store y rlx 1; store y rlx 2; store y rlx 3; store y rlx 4; thread; r1 = load y rlx; r2 = load x rlx; store z rlx 1; r3 = load z rlx", 24 * 24 * 25 * 2},
		{"locs 1; thread; store x rlx 1; thread; r1 = load x rlx; r1 = load x rlx; r1 = load x rlx; r1 = load x rlx; r1 = load x rlx; r1 = load x rlx; r1 = load x rlx; thread; r1 = load x rlx; r1 = load x rlx; r1 = load x rlx; r1 = load x rlx; r1 = load x rlx; r1 = load x rlx; r1 = load x rlx", 1 << 14},
		{"locs 1; thread; store x rlx 1; thread; r1 = load x rlx; r1 = load x rlx; r1 = load x rlx; r1 = load x rlx; r1 = load x rlx; r1 = load x rlx; r1 = load x rlx; thread; r1 = load x rlx; r1 = load x rlx; r1 = load x rlx; r1 = load x rlx; r1 = load x rlx; r1 = load x rlx; r1 = load x rlx; r1 = load x rlx", 1 << 15},
		// Each thread: r1 is 0, and two reads of 0 or 1, or r1 is 1: 5 ways; and 5 reads more: just MaxGraphs.
		{"locs 2" + strings.Repeat("; thread; r1 = load y rlx; skip 2 r1; r2 = load x rlx; r2 = load x rlx", 4) + strings.Repeat("; r2 = load x rlx", 5) + "; store x rlx 1; store y rlx 1", api.MaxGraphs},
		{"locs 2" + strings.Repeat("; thread; r1 = load y rlx; skip 2 r1; r2 = load x rlx; r2 = load x rlx", 4) + strings.Repeat("; r2 = load x rlx", 6) + "; store x rlx 1; store y rlx 1", 2 * api.MaxGraphs},
	} {
		l, e := enum.All(sample.Program(x.text), []int{0, 1, 2, 3, 4, 5, 6, 7})
		if x.n > api.MaxGraphs && (e != api.ErrBig || len(l) != 0) || x.n <= api.MaxGraphs && (e != api.OK || len(l) != x.n) {
			t.Error(x.n, len(l), e)
		}
	}
}

// P13.2
func TestEachOnce(t *testing.T) {
	p := sample.Program("locs 2; thread; r1 = load x rlx; store y rlx 1; store y rlx 1; thread; r2 = load y rlx; store x rlx 0; r3 = faa y rlx rlx 1")
	l, e := enum.All(p, []int{0, 1, 2})
	if e != api.OK || len(l) == 0 {
		t.Fatal(e)
	}
	for i, g := range l {
		if gen.Generated(p, g) != api.OK {
			t.Error(g)
		}
		for _, h := range l[:i] {
			if graph.Same(g, h) {
				t.Error("twice", g)
			}
		}
	}
}

// R3: no two graphs share memory.
func TestNewMemory(t *testing.T) {
	const text = "locs 2; thread; r1 = load x rlx; store x rlx r1; store x rlx 1; thread; r2 = faa x rlx rlx 1; skip 0 r2; store y rlx 2; store y rlx 3"
	p := sample.Program(text)
	for i, l := range p.Threads {
		p.Threads[i] = append(l, api.Instr{})[:len(l)]
	}
	a, _ := enum.All(p, []int{0, 1, 2})
	b, _ := enum.All(p, []int{0, 1, 2})
	for i, l := range sample.Program(text).Threads {
		if !reflect.DeepEqual(p.Threads[i], l) || !reflect.DeepEqual(p.Threads[i][:len(l)+1][len(l)], api.Instr{}) {
			t.Error("turned")
		}
	}
	for i := range a {
		g := a[i]
		for j := range g.Events {
			g.Events[j], g.Rf[j] = api.Event{}, 99
		}
		for _, l := range g.Co {
			for j := range l {
				l[j] = 99
			}
		}
		for _, l := range [][]api.Pair{g.Rmw, g.Data, g.Ctrl} {
			for j := range l {
				l[j] = api.Pair{}
			}
		}
		if i+1 < len(a) && !graph.Same(a[i+1], b[i+1]) {
			t.Fatal(i)
		}
	}
}

// R1: it ends, and soon, where there are far too many lists of values.
func TestEnds(t *testing.T) {
	loads := func(loc string, n int) string {
		s := ""
		for range n {
			s += "; r1 = load " + loc + " rlx; r2 = r1 r2 +"
		}
		return s
	}
	eight := []int{7, 6, 5, 4, 3, 2, 1, 0}
	for i, x := range []struct {
		text   string
		domain []int
		n      int
		e      api.Errno
	}{
		{"locs 1; thread" + loads("x", 6) + "; thread" + loads("x", 6) + "; thread" + loads("x", 6) + "; thread" + loads("x", 6), eight, 1, api.OK},
		{"locs 2; thread" + loads("x", 5) + "; store y rlx r2; thread" + loads("y", 5) + "; store x rlx r2", []int{1, 2, 3, 4, 6, 7, 8, 9}, 0, api.OK},
		{"locs 2; thread" + loads("x", 5) + "; store y rlx r2; thread" + loads("y", 5) + "; store x rlx r2", eight, 0, api.OK},
		{"locs 3; thread" + loads("x", 5) + "; store y rlx r2; thread" + loads("y", 5) + "; store z rlx r2; thread; r1 = load z rlx; store x rlx r1 1 +; thread; r1 = load x rlx; store x rlx 1 r1 -", eight, 0, api.OK},
		{"locs 1; thread; r1 = faa x rlx rlx 1; r1 = faa x rlx rlx 1; r1 = faa x rlx rlx 1; r1 = faa x rlx rlx 1; r1 = faa x rlx rlx 1; r1 = faa x rlx rlx 1; r1 = faa x rlx rlx 1; r1 = faa x rlx rlx 1; r1 = faa x rlx rlx 1; r1 = faa x rlx rlx 1; r1 = faa x rlx rlx 1; r1 = faa x rlx rlx 1", eight, 0, api.ErrBig},
	} {
		start := time.Now()
		l, e := enum.All(sample.Program(x.text), x.domain)
		t.Log(i, len(l), e, time.Since(start))
		if x.e != api.OK && (e != x.e || len(l) != 0) || x.n > 0 && len(l) != x.n {
			t.Error(i, len(l), e)
		}
		if time.Since(start) > time.Minute {
			t.Error(i, "too slow")
		}
	}
}
