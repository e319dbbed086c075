package graph_test

import (
	"math"
	"slices"
	"testing"

	"exegesis/api"
	"exegesis/graph"
)

func p(a, b int) api.Pair { return api.Pair{A: a, B: b} }

// sample is: x, y; thread 1: write x 1, read y 2, bar; thread 2: faa x from 1 to 3, write y 2.
func sample() api.Graph {
	return api.Graph{
		Locs: 2,
		Events: []api.Event{
			{Kind: api.Write}, {Kind: api.Write, Loc: 1},
			{Thread: 1, Kind: api.Write, Mode: api.Rel, Value: 1}, {Thread: 1, Kind: api.Read, Mode: api.Acq, Loc: 1, Value: 2}, {Thread: 1, Kind: api.Bar, Mode: api.SC},
			{Thread: 2, Kind: api.Read, Value: 1, Ex: true}, {Thread: 2, Kind: api.Write, Value: 3, Ex: true}, {Thread: 2, Kind: api.Write, Loc: 1, Value: 2},
		},
		Rf:    []int{-1, -1, -1, 7, -1, 2, -1, -1},
		Co:    [][]int{{0, 2, 6}, {1, 7}},
		Rmw:   []api.Pair{p(5, 6)},
		Data:  []api.Pair{p(5, 6), p(5, 7)},
		Ctrl:  []api.Pair{p(3, 4), p(5, 7)},
		CtrlI: []api.Pair{p(3, 4)},
	}
}

// P6.1: one turn each, and whether the graph may still be.
func TestCheck(t *testing.T) {
	for name, x := range map[string]struct {
		turn func(g *api.Graph)
		ok   bool
	}{
		"as it is":                  {func(g *api.Graph) {}, true},
		"no locations":              {func(g *api.Graph) { g.Locs = 0 }, false},
		"fewer locations":           {func(g *api.Graph) { g.Locs = 1 }, false},
		"more locations":            {func(g *api.Graph) { g.Locs = 3 }, false},
		"far too many locations":    {func(g *api.Graph) { g.Locs = math.MaxInt }, false},
		"below none":                {func(g *api.Graph) { g.Locs = math.MinInt }, false},
		"no events":                 {func(g *api.Graph) { g.Events = nil }, false},
		"a first write's value":     {func(g *api.Graph) { g.Events[1].Value = 1 }, false},
		"a first write's mode":      {func(g *api.Graph) { g.Events[1].Mode = api.Rel }, false},
		"a first write's thread":    {func(g *api.Graph) { g.Events[1].Thread = 1 }, false},
		"a first write ex":          {func(g *api.Graph) { g.Events[1].Ex = true }, false},
		"a first write's location":  {func(g *api.Graph) { g.Events[1].Loc = 0 }, false},
		"a first write a read":      {func(g *api.Graph) { g.Events[1].Kind = api.Read }, false},
		"thread 0":                  {func(g *api.Graph) { g.Events[2].Thread = 0 }, false},
		"thread 3":                  {func(g *api.Graph) { g.Events[7].Thread, g.Data, g.Ctrl = 3, g.Data[:1], g.Ctrl[:1] }, true},
		"thread 4":                  {func(g *api.Graph) { g.Events[7].Thread, g.Data, g.Ctrl = 4, g.Data[:1], g.Ctrl[:1] }, true},
		"thread 5":                  {func(g *api.Graph) { g.Events[7].Thread, g.Data, g.Ctrl = 5, g.Data[:1], g.Ctrl[:1] }, false},
		"threads that go down":      {func(g *api.Graph) { g.Events[2].Thread = 2 }, false},
		"a read of rel":             {func(g *api.Graph) { g.Events[3].Mode = api.Rel }, false},
		"a read of rlx":             {func(g *api.Graph) { g.Events[3].Mode = api.Rlx }, true},
		"a write of acq":            {func(g *api.Graph) { g.Events[7].Mode = api.Acq }, false},
		"a write of sc":             {func(g *api.Graph) { g.Events[7].Mode = api.SC }, false},
		"a write of rel":            {func(g *api.Graph) { g.Events[7].Mode = api.Rel }, true},
		"a bar of rlx":              {func(g *api.Graph) { g.Events[4].Mode = api.Rlx }, false},
		"a bar of acq":              {func(g *api.Graph) { g.Events[4].Mode = api.Acq }, true},
		"a bar of 5":                {func(g *api.Graph) { g.Events[4].Mode = 5 }, false},
		"a bar's location":          {func(g *api.Graph) { g.Events[4].Loc = 1 }, false},
		"a bar's value":             {func(g *api.Graph) { g.Events[4].Value = 1 }, false},
		"a bar ex":                  {func(g *api.Graph) { g.Events[4].Ex = true }, false},
		"a kind that is none":       {func(g *api.Graph) { g.Events[4].Kind = 0 }, false},
		"another kind that is none": {func(g *api.Graph) { g.Events[4].Kind = 4 }, false},
		"a location too far":        {func(g *api.Graph) { g.Events[3].Loc = 2 }, false},
		"a location below":          {func(g *api.Graph) { g.Events[3].Loc = -1 }, false},
		"a write too far":           {func(g *api.Graph) { g.Events[7].Loc, g.Co[1], g.Events[3].Value, g.Rf[3] = 2, []int{1}, 0, 1 }, false},
		"a write below":             {func(g *api.Graph) { g.Events[7].Loc, g.Co[1], g.Events[3].Value, g.Rf[3] = -1, []int{1}, 0, 1 }, false},
		"rmw over two threads":      {func(g *api.Graph) { g.Events[6].Thread, g.Events[7].Thread, g.Data, g.Ctrl = 3, 3, nil, nil }, false},
		"one ex for another one":    {func(g *api.Graph) { g.Events[6].Ex, g.Events[7].Ex = false, true }, false},
		"one ex ahead of one":       {func(g *api.Graph) { g.Events[5].Ex, g.Events[7].Ex = false, true }, false},
		"rf too short":              {func(g *api.Graph) { g.Rf = g.Rf[:7] }, false},
		"rf too long":               {func(g *api.Graph) { g.Rf = append(g.Rf, -1) }, false},
		"rf of a write":             {func(g *api.Graph) { g.Rf[2] = 0 }, false},
		"rf of a bar":               {func(g *api.Graph) { g.Rf[4] = -2 }, false},
		"no rf of a read":           {func(g *api.Graph) { g.Rf[3] = -1 }, false},
		"rf of another value":       {func(g *api.Graph) { g.Rf[3] = 1 }, false},
		"rf of another location":    {func(g *api.Graph) { g.Events[2].Value, g.Rf[3] = 2, 2 }, false},
		"rf of a read":              {func(g *api.Graph) { g.Rf[3] = 3 }, false},
		"rf too far":                {func(g *api.Graph) { g.Rf[3] = 8 }, false},
		"rf far too far":            {func(g *api.Graph) { g.Rf[3] = math.MinInt }, false},
		"rf from behind":            {func(g *api.Graph) { g.Events[3].Value, g.Events[7].Value = 9, 9 }, true},
		"co too short":              {func(g *api.Graph) { g.Co = g.Co[:1] }, false},
		"co too long":               {func(g *api.Graph) { g.Co = append(g.Co, nil) }, false},
		"co in another order":       {func(g *api.Graph) { g.Co[0] = []int{0, 6, 2} }, true},
		"co with another one ahead": {func(g *api.Graph) { g.Co[0] = []int{2, 0, 6} }, false},
		"co without a write":        {func(g *api.Graph) { g.Co[0] = []int{0, 2} }, false},
		"co with one twice":         {func(g *api.Graph) { g.Co[0] = []int{0, 2, 2} }, false},
		"co with one more":          {func(g *api.Graph) { g.Co[0] = []int{0, 2, 6, 2} }, false},
		"co with another's write":   {func(g *api.Graph) { g.Co[0] = []int{0, 2, 7} }, false},
		"co with a read":            {func(g *api.Graph) { g.Co[0] = []int{0, 2, 5} }, false},
		"co with what is not there": {func(g *api.Graph) { g.Co[0] = []int{0, 2, -6} }, false},
		"co of none":                {func(g *api.Graph) { g.Co[1] = nil }, false},
		"no rmw":                    {func(g *api.Graph) { g.Rmw = nil }, false},
		"no rmw, no ex":             {func(g *api.Graph) { g.Rmw, g.Events[5].Ex, g.Events[6].Ex = nil, false, false }, true},
		"rmw of what is not ex":     {func(g *api.Graph) { g.Events[5].Ex, g.Events[6].Ex = false, false }, false},
		"rmw of a write not ex":     {func(g *api.Graph) { g.Events[6].Ex = false }, false},
		"rmw twice":                 {func(g *api.Graph) { g.Rmw = append(g.Rmw, g.Rmw[0]) }, false},
		"rmw too far":               {func(g *api.Graph) { g.Rmw[0] = p(5, 7) }, false},
		"rmw turned":                {func(g *api.Graph) { g.Rmw[0] = p(6, 5) }, false},
		"rmw of unlike locations":   {func(g *api.Graph) { g.Events[6].Loc, g.Co = 1, [][]int{{0, 2}, {1, 7, 6}} }, false},
		"rmw nowhere":               {func(g *api.Graph) { g.Rmw[0] = p(math.MaxInt, math.MinInt) }, false},
		"one ex more":               {func(g *api.Graph) { g.Events[3].Ex = true }, false},
		"data of a write":           {func(g *api.Graph) { g.Data = []api.Pair{p(6, 7)} }, false},
		"data back":                 {func(g *api.Graph) { g.Data = []api.Pair{p(5, 4)} }, false},
		"data to itself":            {func(g *api.Graph) { g.Data = []api.Pair{p(5, 5)} }, false},
		"data between threads":      {func(g *api.Graph) { g.Data = []api.Pair{p(3, 5)} }, false},
		"data too far":              {func(g *api.Graph) { g.Data = []api.Pair{p(5, 8)} }, false},
		"data from nowhere":         {func(g *api.Graph) { g.Data = []api.Pair{p(-1, 7)} }, false},
		"data that does not rise":   {func(g *api.Graph) { g.Data = []api.Pair{p(5, 7), p(5, 6)} }, false},
		"data twice":                {func(g *api.Graph) { g.Data = []api.Pair{p(5, 6), p(5, 6)} }, false},
		"data that rises by A":      {func(g *api.Graph) { g.Data = []api.Pair{p(3, 4), p(5, 6)} }, true},
		"data that falls by A":      {func(g *api.Graph) { g.Data = []api.Pair{p(5, 6), p(3, 4)} }, false},
		"ctrl back":                 {func(g *api.Graph) { g.Ctrl[1] = p(7, 5) }, false},
		"ctrli of a write":          {func(g *api.Graph) { g.CtrlI = []api.Pair{p(2, 3)} }, false},
		"ctrli without ctrl":        {func(g *api.Graph) { g.Ctrl = nil }, true},
	} {
		g := sample()
		x.turn(&g)
		if graph.Check(g) != x.ok {
			t.Error(name)
		}
	}
}

// P6.1: how many events there may be; the smallest graph.
func TestSizes(t *testing.T) {
	if !graph.Check(api.Graph{Locs: 1, Events: []api.Event{{Kind: api.Write}}, Rf: []int{-1}, Co: [][]int{{0}}}) {
		t.Error("one location, no threads")
	}
	for locs := 1; locs <= 6; locs++ {
		g := api.Graph{Locs: locs}
		for loc := range locs {
			g.Events = append(g.Events, api.Event{Kind: api.Write, Loc: loc})
			g.Rf, g.Co = append(g.Rf, -1), append(g.Co, []int{loc})
		}
		if graph.Check(g) != (locs <= api.MaxLocs) {
			t.Error(locs, "locations")
		}
	}
	for n := 38; n <= 42; n++ {
		g := api.Graph{Locs: 1, Co: [][]int{nil}}
		for at := range n {
			g.Events = append(g.Events, api.Event{Thread: min(at, 1), Kind: api.Write})
			g.Rf = append(g.Rf, -1)
			g.Co[0] = append(g.Co[0], at)
		}
		if graph.Check(g) != (n <= api.MaxEvents) {
			t.Error(n)
		}
		if graph.Po(g).Len() != min(n, 40) || graph.Set(g, func(api.Event) bool { return true }).Len() != min(n, 40) {
			t.Error(n)
		}
	}
	if graph.Check(api.Graph{}) {
		t.Error("the zero graph")
	}
}

// P6.2
func TestSame(t *testing.T) {
	if !graph.Same(sample(), sample()) || !graph.Same(api.Graph{}, api.Graph{Events: []api.Event{}, Rf: []int{}, Co: [][]int{}, Data: []api.Pair{}}) || !graph.Same(api.Graph{Co: [][]int{nil}}, api.Graph{Co: [][]int{{}}}) {
		t.Error("not same")
	}
	for i, turn := range []func(g *api.Graph){
		func(g *api.Graph) { g.Locs++ }, func(g *api.Graph) { g.Events[4].Mode++ }, func(g *api.Graph) { g.Events = g.Events[:7] }, func(g *api.Graph) { g.Rf[0] = 5 }, func(g *api.Graph) { g.Co[1][1] = 0 }, func(g *api.Graph) { g.Co[1] = nil }, func(g *api.Graph) { g.Co = append(g.Co, nil) },
		func(g *api.Graph) { g.Rmw[0].A = 0 }, func(g *api.Graph) { g.Data = g.Data[:1] }, func(g *api.Graph) { g.Ctrl[1].B = 0 }, func(g *api.Graph) { g.CtrlI = nil },
	} {
		g := sample()
		turn(&g)
		if graph.Same(g, sample()) || graph.Same(sample(), g) {
			t.Error(i)
		}
	}
}

// P6.2
func TestRelations(t *testing.T) {
	g := sample()
	want := []api.Pair{p(0, 2), p(0, 3), p(0, 4), p(0, 5), p(0, 6), p(0, 7), p(1, 2), p(1, 3), p(1, 4), p(1, 5), p(1, 6), p(1, 7), p(2, 3), p(2, 4), p(3, 4), p(5, 6), p(5, 7), p(6, 7)}
	if po := graph.Po(g); po.Len() != 8 || !slices.Equal(po.Pairs(), want) {
		t.Error(po.Pairs())
	}
	if r := graph.Of(g, []api.Pair{p(7, 0), p(0, 7), p(8, 0), p(-1, 0)}); r.Len() != 8 || !slices.Equal(r.Pairs(), []api.Pair{p(0, 7), p(7, 0)}) {
		t.Error(r.Pairs())
	}
	if r := graph.Set(g, func(e api.Event) bool { return e.Kind == api.Read }); r.Len() != 8 || !slices.Equal(r.Pairs(), []api.Pair{p(3, 3), p(5, 5)}) {
		t.Error(r.Pairs())
	}
	if !graph.Same(g, sample()) {
		t.Error("turned")
	}
}

// P6.3
func TestPoDoesNotLoop(t *testing.T) {
	for _, g := range []api.Graph{sample(), {}, {Events: make([]api.Event, 5)}} {
		if graph.Po(g).Loops() {
			t.Error(g)
		}
	}
	g := sample()
	g.Events = append(g.Events, make([]api.Event, 1<<20)...)
	if graph.Po(g).Len() != 40 {
		t.Error("a long list of events")
	}
}
