package gen_test

import (
	"math"
	"reflect"
	"slices"
	"testing"

	"exegesis/api"
	"exegesis/gen"
	"exegesis/graph"
	"exegesis/lang"
)

func program(s string) api.Prog {
	p, line, e := lang.Parse(s)
	if e != api.OK {
		panic(line)
	}
	return p
}

func p(a, b int) api.Pair { return api.Pair{A: a, B: b} }

const two = "locs 2\nthread\nr1 = load x acq\nskip 1 r1\nstore y rel r1\nfence sc\nthread\nr0 = faa y rlx rel 2\nstore x rlx r0\n"

func made() api.Graph {
	return api.Graph{
		Locs: 2,
		Events: []api.Event{
			{Kind: api.Write}, {Kind: api.Write, Loc: 1},
			{Thread: 1, Kind: api.Read, Mode: api.Acq}, {Thread: 1, Kind: api.Write, Mode: api.Rel, Loc: 1}, {Thread: 1, Kind: api.Bar, Mode: api.SC},
			{Thread: 2, Kind: api.Read, Loc: 1, Ex: true}, {Thread: 2, Kind: api.Write, Mode: api.Rel, Loc: 1, Value: 2, Ex: true}, {Thread: 2, Kind: api.Write},
		},
		Rmw:  []api.Pair{p(5, 6)},
		Data: []api.Pair{p(2, 3), p(5, 6), p(5, 7)},
		Ctrl: []api.Pair{p(2, 3), p(2, 4)},
	}
}

// P7.1
func TestSkeleton(t *testing.T) {
	g, e := gen.Skeleton(program(two), [][]int{{0}, {0}})
	if e != api.OK || !graph.Same(g, made()) {
		t.Error(g, e)
	}
	if g, e = gen.Skeleton(program(two), [][]int{{3}, {-4}, {1, 2}}); e != api.OK || len(g.Events) != 7 || g.Events[5].Value != -2 || !slices.Equal(g.Data, []api.Pair{p(4, 5), p(4, 6)}) {
		t.Error("lists of threads that there are not are no matter", g, e)
	}
	for _, reads := range [][][]int{nil, {}, {{0}}, {nil, {0}}, {{0}, nil}, {{0, 0}, {0}}, {{0}, {0, 0}}, {{0}, nil, {0}}} {
		if g, e := gen.Skeleton(program(two), reads); e != api.ErrGen || !reflect.DeepEqual(g, api.Graph{}) {
			t.Error(reads, g, e)
		}
	}
	big := api.Prog{Locs: 1, Threads: make([][]api.Instr, 5)}
	bad := program("locs 1\nthread\nstore x acq 1\n")
	for _, p := range []api.Prog{{}, big, bad} {
		if g, e := gen.Skeleton(p, [][]int{{1}}); e != api.ErrForm || !reflect.DeepEqual(g, api.Graph{}) {
			t.Error(p, g, e)
		}
		if e := gen.Generated(p, api.Graph{}); e != api.ErrForm {
			t.Error(p, e)
		}
	}
	if g, e := gen.Skeleton(program("locs 3\nthread\n"), nil); e != api.OK || len(g.Events) != 3 || len(g.Rf)+len(g.Co) != 0 {
		t.Error("an empty thread", g, e)
	}
}

// P7.1
func TestReads(t *testing.T) {
	g := made()
	g.Events[2].Value = 7
	g.Events = append(g.Events, api.Event{Thread: 9, Kind: api.Read, Value: 5}, api.Event{Thread: 1, Kind: api.Read, Value: 6}, api.Event{Thread: 0, Kind: api.Read, Value: 5}, api.Event{Thread: -1, Kind: api.Read, Value: 5})
	for _, x := range []struct {
		threads int
		l       [][]int
	}{{math.MinInt, nil}, {0, nil}, {1, [][]int{{7, 6}}}, {2, [][]int{{7, 6}, {0}}}, {4, [][]int{{7, 6}, {0}, nil, nil}}, {math.MaxInt, [][]int{{7, 6}, {0}, nil, nil}}} {
		if l := gen.Reads(g, x.threads); !slices.EqualFunc(l, x.l, slices.Equal) {
			t.Error(x, l)
		}
	}
	if l := gen.Reads(api.Graph{}, 2); len(l) != 2 || len(l[0])+len(l[1]) != 0 {
		t.Error(l)
	}
}

func whole() api.Graph {
	g := made()
	g.Rf = []int{-1, -1, 7, -1, -1, 3, -1, -1}
	g.Co = [][]int{{0, 7}, {1, 3, 6}}
	return g
}

// P7.2
func TestGenerated(t *testing.T) {
	if e := gen.Generated(program(two), whole()); e != api.OK {
		t.Error(e)
	}
	for name, x := range map[string]struct {
		turn func(g *api.Graph)
		e    api.Errno
	}{
		"another rf":         {func(g *api.Graph) { g.Rf[2] = 0 }, api.OK},
		"another co":         {func(g *api.Graph) { g.Co[1] = []int{1, 6, 3} }, api.OK},
		"no graph":           {func(g *api.Graph) { g.Rf = nil }, api.ErrGraph},
		"another value":      {func(g *api.Graph) { g.Events[7].Value, g.Rf[2] = 5, 0 }, api.ErrGen},
		"another mode":       {func(g *api.Graph) { g.Events[2].Mode = api.Rlx }, api.ErrGen},
		"another fence":      {func(g *api.Graph) { g.Events[4].Mode = api.Acq }, api.ErrGen},
		"no data":            {func(g *api.Graph) { g.Data = nil }, api.ErrGen},
		"no ctrl":            {func(g *api.Graph) { g.Ctrl = g.Ctrl[:1] }, api.ErrGen},
		"more data":          {func(g *api.Graph) { g.Data = append([]api.Pair{p(2, 3), p(2, 4)}, g.Data[1:]...) }, api.ErrGen},
		"ctrli":              {func(g *api.Graph) { g.CtrlI = []api.Pair{p(2, 3)} }, api.ErrGen},
		"no rmw":             {func(g *api.Graph) { g.Rmw, g.Events[5].Ex, g.Events[6].Ex = nil, false, false }, api.ErrGen},
		"thread 3":           {func(g *api.Graph) { g.Events[5].Thread, g.Events[6].Thread, g.Events[7].Thread = 3, 3, 3 }, api.ErrGen},
		"another read":       {func(g *api.Graph) { g.Events[2].Value, g.Events[7].Value = 9, 9 }, api.ErrGen},
		"the first one less": {func(g *api.Graph) { *g = api.Graph{Locs: 1, Events: g.Events[:1], Rf: []int{-1}, Co: [][]int{{0}}} }, api.ErrGen},
	} {
		g := whole()
		x.turn(&g)
		if e := gen.Generated(program(two), g); e != x.e {
			t.Error(name, e)
		}
	}
	g := api.Graph{Locs: 2, Events: []api.Event{{Kind: api.Write}, {Kind: api.Write, Loc: 1}}, Rf: []int{-1, -1}, Co: [][]int{{0}, {1}}}
	if gen.Generated(program("locs 2\nthread\n"), g) != api.OK || gen.Generated(program("locs 2\nthread\nthread\nr1 = 5\n"), g) != api.OK || gen.Generated(program("locs 1\nthread\n"), g) != api.ErrGen || gen.Generated(program("locs 3\nthread\n"), g) != api.ErrGen {
		t.Error("the first writes alone")
	}
}

// P7.3: a skeleton with what reads from what, and what came first, is a graph of its program.
func TestSkeletonIsGenerated(t *testing.T) {
	g, _ := gen.Skeleton(program(two), [][]int{{0}, {2}})
	g.Rf, g.Co = []int{-1, -1, 0, -1, -1, -1, -1, -1}, [][]int{{0, 7}, {1, 6, 3}}
	if gen.Generated(program(two), g) != api.ErrGraph {
		t.Error("nobody writes 2")
	}
	g, _ = gen.Skeleton(program(two), [][]int{{2}, {0}})
	g.Rf, g.Co = []int{-1, -1, 6, -1, 1, -1, -1}, [][]int{{0, 6}, {1, 5}}
	if gen.Generated(program(two), g) != api.ErrGraph {
		t.Error("0 is not 2")
	}
	if gen.Generated(program(two), whole()) != api.OK || !slices.EqualFunc(gen.Reads(whole(), 2), [][]int{{0}, {0}}, slices.Equal) {
		t.Error("reads")
	}
}
