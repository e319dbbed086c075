package pgraph_test

import (
	"math"
	"math/rand"
	"reflect"
	"slices"
	"strconv"
	"strings"
	"testing"
	"time"

	"exegesis/api"
	"exegesis/asm"
	"exegesis/graph"
	"exegesis/pgraph"
	"exegesis/pthread"
)

func program(s string) api.PProg {
	p, line, e := asm.Parse(strings.ReplaceAll(s, "; ", "\n"))
	if e != api.OK {
		panic(line)
	}
	return p
}

func p(a, b int) api.Pair { return api.Pair{A: a, B: b} }

const two = "locs 2; thread; ld r1 x; bc 0 r1; isync; lwsync; st y r1; sync; thread; larx r0 y; stcx y r0 2 +; bc 1 r0; st x r0"

func made() api.Graph {
	return api.Graph{
		Locs: 2,
		Events: []api.Event{
			{Kind: api.Write}, {Kind: api.Write, Loc: 1},
			{Thread: 1, Kind: api.Read}, {Thread: 1, Kind: api.Bar, Mode: api.AcqRel}, {Thread: 1, Kind: api.Write, Loc: 1}, {Thread: 1, Kind: api.Bar, Mode: api.SC},
			{Thread: 2, Kind: api.Read, Loc: 1, Ex: true}, {Thread: 2, Kind: api.Write, Loc: 1, Value: 2, Ex: true}, {Thread: 2, Kind: api.Write},
		},
		Rmw:   []api.Pair{p(6, 7)},
		Data:  []api.Pair{p(2, 4), p(6, 7), p(6, 8)},
		Ctrl:  []api.Pair{p(2, 3), p(2, 4), p(2, 5), p(6, 8)},
		CtrlI: []api.Pair{p(2, 3), p(2, 4), p(2, 5)},
	}
}

// P18.1
func TestSkeleton(t *testing.T) {
	g, e := pgraph.Skeleton(program(two), [][]int{{0}, {0}, {9}})
	if e != api.OK || !graph.Same(g, made()) {
		t.Error(g, e)
	}
	if g, e := pgraph.Skeleton(program(two), [][]int{{5}, {1}}); e != api.OK || len(g.Events) != 8 || g.Events[4].Value != 5 {
		t.Error(g, e)
	}
	for _, reads := range [][][]int{nil, {{0}}, {nil, {0}}, {{0, 0}, {0}}, {{0}, {0, 0}}} {
		if g, e := pgraph.Skeleton(program(two), reads); e != api.ErrGen || !reflect.DeepEqual(g, api.Graph{}) {
			t.Error(reads, g, e)
		}
	}
	big := program("locs 1; thread" + strings.Repeat("; sync", 40))
	if g, e := pgraph.Skeleton(big, nil); e != api.ErrBig || !reflect.DeepEqual(g, api.Graph{}) {
		t.Error(e)
	}
	if _, e := pgraph.Skeleton(big, [][]int{{1}}); e != api.ErrGen {
		t.Error("ErrGen is named ahead", e)
	}
	big.Threads[0] = big.Threads[0][1:]
	if g, e := pgraph.Skeleton(big, nil); e != api.OK || len(g.Events) != 40 {
		t.Error(e)
	}
	for _, p := range []api.PProg{{}, {Locs: math.MaxInt}, {Locs: 1, Threads: make([][]api.PInstr, 5)}, {Locs: 1, Threads: [][]api.PInstr{{{Kind: api.Stcx}}}}, program("locs 1; thread; larx r1 x")} {
		g, e := pgraph.Skeleton(p, nil)
		l, f := pgraph.All(p, []int{0})
		if e != api.ErrForm || f != api.ErrForm || len(l) != 0 || !reflect.DeepEqual(g, api.Graph{}) || pgraph.Generated(p, api.Graph{}) != api.ErrForm {
			t.Error(p, e, f)
		}
	}
}

// P18.1
func TestGenerated(t *testing.T) {
	whole := func() api.Graph {
		g := made()
		g.Rf, g.Co = []int{-1, -1, 8, -1, -1, -1, 1, -1, -1}, [][]int{{0, 8}, {1, 4, 7}}
		return g
	}
	for name, x := range map[string]struct {
		turn func(g *api.Graph)
		e    api.Errno
	}{
		"as it is":   {func(g *api.Graph) {}, api.OK},
		"another rf": {func(g *api.Graph) { g.Rf[2] = 0 }, api.OK},
		"another co": {func(g *api.Graph) { g.Co[1] = []int{1, 7, 4} }, api.OK},
		"no graph":   {func(g *api.Graph) { g.Rf[2] = 1 }, api.ErrGraph},
		"no ctrli":   {func(g *api.Graph) { g.CtrlI = nil }, api.ErrGen},
		"no ctrl":    {func(g *api.Graph) { g.Ctrl = g.Ctrl[1:] }, api.ErrGen},
		"a mode":     {func(g *api.Graph) { g.Events[2].Mode = api.Acq }, api.ErrGen},
		"a fence":    {func(g *api.Graph) { g.Events[3].Mode = api.Rel }, api.ErrGen},
		"a value":    {func(g *api.Graph) { g.Events[4].Value = 1 }, api.ErrGen},
	} {
		g := whole()
		x.turn(&g)
		if e := pgraph.Generated(program(two), g); e != x.e {
			t.Error(name, e)
		}
	}
	// Reads of 1 would make more events than a graph has.
	p := program("locs 1; thread; st x 1; ld r1 x; bc 40 r1 1 <" + strings.Repeat("; sync", 40))
	g := api.Graph{Locs: 1, Events: []api.Event{{Kind: api.Write}, {Thread: 1, Kind: api.Write, Value: 1}, {Thread: 1, Kind: api.Read, Value: 1}}, Rf: []int{-1, -1, 1}, Co: [][]int{{0, 1}}}
	if pgraph.Generated(p, g) != api.ErrGen {
		t.Error("too big a skeleton")
	}
	g.Events[2].Value, g.Rf[2] = 0, 0
	if pgraph.Generated(p, g) != api.OK {
		t.Error("a small one")
	}
}

// lists is all lists of values that a thread uses just up.
func lists(l []api.PInstr, domain, begin []int) [][]int {
	if _, ok := pthread.Do(l, begin); ok {
		return [][]int{begin}
	}
	var all [][]int
	for i, v := range domain {
		if !slices.Contains(domain[:i], v) {
			all = append(all, lists(l, domain, append(slices.Clone(begin), v))...)
		}
	}
	return all
}

// plain is All, the long way round.
func plain(p api.PProg, domain []int) ([]api.Graph, api.Errno) {
	all := [][][]int{nil}
	for _, l := range p.Threads {
		var longer [][][]int
		for _, ahead := range all {
			for _, v := range lists(l, domain, nil) {
				longer = append(longer, append(slices.Clone(ahead), v))
			}
		}
		all = longer
	}
	var out []api.Graph
	for _, reads := range all {
		g, e := pgraph.Skeleton(p, reads)
		if e != api.OK {
			return nil, e
		}
		g.Rf = make([]int, len(g.Events))
		g.Co = make([][]int, g.Locs)
		settle(g, 0, func(g api.Graph) {
			if len(out) <= api.MaxGraphs && pgraph.Generated(p, g) == api.OK {
				g.Rf = slices.Clone(g.Rf)
				out = append(out, g)
			}
		})
	}
	if len(out) > api.MaxGraphs {
		return nil, api.ErrBig
	}
	return out, api.OK
}

func settle(g api.Graph, at int, f func(api.Graph)) {
	if at == len(g.Events) {
		order(g, 0, f)
		return
	}
	g.Rf[at] = -1
	if g.Events[at].Kind != api.Read {
		settle(g, at+1, f)
		return
	}
	for w, e := range g.Events {
		if e.Kind == api.Write && e.Value == g.Events[at].Value {
			g.Rf[at] = w
			settle(g, at+1, f)
		}
	}
}

func order(g api.Graph, loc int, f func(api.Graph)) {
	if loc == g.Locs {
		f(g)
		return
	}
	var rest []int
	for at, e := range g.Events {
		if e.Kind == api.Write && e.Loc == loc && at != loc {
			rest = append(rest, at)
		}
	}
	for _, l := range turns(rest) {
		g.Co = slices.Clone(g.Co)
		g.Co[loc] = append([]int{loc}, l...)
		order(g, loc+1, f)
	}
}

func turns(l []int) [][]int {
	if len(l) == 0 {
		return [][]int{nil}
	}
	var out [][]int
	for i, v := range l {
		for _, rest := range turns(slices.Delete(slices.Clone(l), i, i+1)) {
			out = append(out, append([]int{v}, rest...))
		}
	}
	return out
}

// P18.1, P18.2: all graphs, in order, each once.
func TestAllAgainstPlain(t *testing.T) {
	rnd := rand.New(rand.NewSource(1))
	lines := []string{"ld r1 x", "ld r2 y", "ld r1 x; bc 0 r1; isync", "st x 1", "st y r1", "st x r1 r2 +", "larx r1 x; stcx x r1 1 +", "larx r2 y; stcx y r1", "sync", "lwsync", "bc 1 r1", "bc 1 r2 r1 =", "bc 2 r2", "mov r1 r1 1 +", "mov r2 1 r1 -"}
	domains := [][]int{{0, 1}, {0, 1, 2}, {2, 1, 0}, {1, 2}, {0}, nil, {3, 0, 1, 0, 3}}
	some, graphs := 0, 0
	for range 2500 {
		q := api.PProg{Locs: 2, Threads: make([][]api.PInstr, 1+rnd.Intn(3))}
		for range 1 + rnd.Intn(4) {
			at := rnd.Intn(len(q.Threads))
			q.Threads[at] = append(q.Threads[at], program("locs 2; thread; " + lines[rnd.Intn(len(lines))]).Threads[0]...)
		}
		if asm.Check(q) != api.OK {
			continue
		}
		domain := domains[rnd.Intn(len(domains))]
		got, e := pgraph.All(q, domain)
		want, f := plain(q, domain)
		if e != f || !slices.EqualFunc(got, want, graph.Same) {
			t.Fatal(asm.Text(q), domain, e, len(got), len(want))
		}
		some++
		graphs += len(got)
	}
	if some < 1000 || graphs < 3000 {
		t.Error(some, graphs)
	}
	if l, e := pgraph.All(program("locs 2; thread"), nil); e != api.OK || len(l) != 1 || len(l[0].Events) != 2 {
		t.Error("an empty thread")
	}
}

// P18.1: ErrBig, if a Skeleton says it.
func TestSkeletonTooBig(t *testing.T) {
	rnd := rand.New(rand.NewSource(2))
	seen := map[api.Errno]int{}
	for range 2000 {
		q := api.PProg{Locs: 1, Threads: make([][]api.PInstr, 1+rnd.Intn(2))}
		for at := range q.Threads {
			s := ""
			for range 2 + rnd.Intn(2) {
				s += []string{"; ld r1 x", "; ld r1 x; mov r2 r1 r2 +", "; ld r2 x; mov r1 r2", "; mov r1 2"}[rnd.Intn(4)]
				n := 5 + rnd.Intn(7)
				s += []string{"; bc B r1; bc A r2" + strings.Repeat("; sync", n), "; bc A r1" + strings.Repeat("; sync", n), "; bc A r1 1 =" + strings.Repeat("; sync", n), "; bc A r2 2 <" + strings.Repeat("; sync", n), strings.Repeat("; sync", n)}[rnd.Intn(5)]
				s = strings.ReplaceAll(s, "B", strconv.Itoa(n+1))
				s = strings.ReplaceAll(s, "A", []string{"0", "1", "2", "3", "4", "5", "6", "7", "8", "9", "10", "11"}[n])
			}
			q.Threads[at] = program("locs 1; thread" + s).Threads[0]
		}
		domain := [][]int{{0, 1}, {1}, nil, {2, 0, 1}}[rnd.Intn(4)]
		if asm.Check(q) != api.OK {
			t.Fatal(asm.Text(q))
		}
		_, e := pgraph.All(q, domain)
		if _, f := plainErr(q, domain); e != f {
			t.Fatal(asm.Text(q), domain, e, f)
		}
		seen[e]++
	}
	if seen[api.OK] < 100 || seen[api.ErrBig] < 100 {
		t.Error(seen)
	}
}

// plainErr asks all Skeletons alone.
func plainErr(q api.PProg, domain []int) (int, api.Errno) {
	first := lists(q.Threads[0], domain, nil)
	second := [][]int{nil}
	if len(q.Threads) > 1 {
		second = lists(q.Threads[1], domain, nil)
	}
	for _, a := range first {
		for _, b := range second {
			if _, e := pgraph.Skeleton(q, [][]int{a, b}); e != api.OK {
				return 0, e
			}
		}
	}
	return len(first), api.OK
}

// P18.1: without a domain a thread that reads has no Values, and there is no Skeleton.
func TestNoValues(t *testing.T) {
	q := program("locs 1; thread; ld r1 x; thread" + strings.Repeat("; sync", 60))
	if l, e := pgraph.All(q, nil); e != api.OK || len(l) != 0 {
		t.Error(len(l), e)
	}
	if l, e := pgraph.All(q, []int{5}); e != api.ErrBig || len(l) != 0 {
		t.Error(len(l), e)
	}
	q = program("locs 1; thread; bc 1 1; ld r1 x; thread" + strings.Repeat("; sync", 60))
	if l, e := pgraph.All(q, nil); e != api.ErrBig || len(l) != 0 {
		t.Error(len(l), e)
	}
}

// R3: no two graphs share memory.
func TestNewMemory(t *testing.T) {
	q := program("locs 2; thread; ld r1 x; bc 0 r1; isync; st x r1; larx r2 y; stcx y r2 1 +; thread; st x 1; st y 2")
	a, _ := pgraph.All(q, []int{0, 1, 2})
	b, _ := pgraph.All(q, []int{0, 1, 2})
	for i, g := range a {
		for _, l := range [][]api.Pair{g.Rmw, g.Data, g.Ctrl, g.CtrlI} {
			for j := range l {
				l[j] = api.Pair{}
			}
		}
		for _, l := range append(g.Co, g.Rf) {
			for j := range l {
				l[j] = 77
			}
		}
		if i+1 < len(a) && !graph.Same(a[i+1], b[i+1]) {
			t.Fatal(i)
		}
	}
}

// R1: it ends, and soon.
func TestEnds(t *testing.T) {
	eight := []int{0, 1, 2, 3, 4, 5, 6, 7}
	repeat := func(n int, s string) string { return strings.Repeat("; "+s, n) }
	for i, x := range []struct {
		s string
		n int
		e api.Errno
	}{
		{"locs 1; thread" + repeat(39, "ld r1 x"), 1, api.OK},
		{"locs 1; thread" + repeat(33, "ld r1 x; bc 0 r1; isync"), 1, api.OK},
		{"locs 1; thread" + repeat(20, "ld r1 x") + "; thread" + repeat(19, "ld r1 x; mov r2 r2 r1 +"), 1, api.OK},
		{"locs 1; thread" + repeat(40, "ld r1 x"), 0, api.ErrBig},
		{"locs 1; thread" + repeat(100, "ld r1 x") + "; thread" + repeat(100, "sync"), 0, api.ErrBig},
		{"locs 1; thread" + repeat(33, "ld r1 x; mov r2 r2 r1 +; bc 0 r2") + "; thread" + repeat(33, "ld r1 x; bc 1 r1; st x 1"), 0, api.ErrBig},
		{"locs 1; thread" + repeat(30, "ld r1 x; bc 1 r1; sync"), 0, api.ErrBig},
		{"locs 1; thread; thread" + repeat(40, "sync"), 0, api.ErrBig},
		{"locs 1; thread; thread" + repeat(39, "sync"), 1, api.OK},
		{"locs 2; thread" + repeat(7, "st x 1") + "; thread" + repeat(2, "ld r1 x"), 0, api.ErrBig},
	} {
		start := time.Now()
		l, e := pgraph.All(program(x.s), eight)
		if e != x.e || len(l) != x.n || time.Since(start) > 20*time.Second {
			t.Error(i, len(l), e, time.Since(start))
		}
		t.Log(i, time.Since(start))
	}
}
