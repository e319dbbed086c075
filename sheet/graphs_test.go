package sheet_test

import (
	"math"
	"math/rand"
	"testing"

	"exegesis/api"
	"exegesis/cert"
	"exegesis/eco"
	"exegesis/enum"
	"exegesis/gen"
	"exegesis/graph"
	"exegesis/imm"
	"exegesis/lang"
	"exegesis/lift"
	"exegesis/lower"
	"exegesis/mem"
	"exegesis/order"
	"exegesis/pgraph"
	"exegesis/power"
	"exegesis/ppo"
	"exegesis/rel"
	"exegesis/sync"
	"exegesis/valid"
)

// wild is numbers of all kinds.
type wild struct{ *rand.Rand }

func (w wild) number() int {
	switch w.Intn(6) {
	case 0:
		return []int{math.MinInt, math.MaxInt, -1, 40, 64, 1 << 40}[w.Intn(6)]
	case 1:
		return w.Intn(50) - 5
	}
	return w.Intn(8)
}

func (w wild) numbers() []int {
	l := make([]int, w.Intn(12))
	for i := range l {
		l[i] = w.number()
	}
	return l
}

func (w wild) pairs() []api.Pair {
	l := make([]api.Pair, w.Intn(9))
	for i := range l {
		l[i] = api.Pair{A: w.number(), B: w.number()}
	}
	return l
}

func (w wild) graph() api.Graph {
	g := api.Graph{Locs: w.number(), Events: make([]api.Event, w.Intn(60)), Rf: w.numbers(), Rmw: w.pairs(), Data: w.pairs(), Ctrl: w.pairs(), CtrlI: w.pairs()}
	for i := range g.Events {
		g.Events[i] = api.Event{Thread: w.number(), Kind: w.number(), Mode: w.number(), Loc: w.number(), Value: w.number(), Ex: w.Intn(2) == 0}
	}
	for range w.Intn(6) {
		g.Co = append(g.Co, w.numbers())
	}
	return g
}

// spoilt is a graph with one thing of it turned.
func (w wild) spoilt(g api.Graph) api.Graph {
	v := w.number()
	e := &g.Events[w.Intn(len(g.Events))]
	switch w.Intn(9) {
	case 0:
		e.Thread = v
	case 1:
		e.Kind = v
	case 2:
		e.Mode = v
	case 3:
		e.Loc = v
	case 4:
		e.Value = v
	case 5:
		g.Rf[w.Intn(len(g.Rf))] = v
	case 6:
		g.Co[w.Intn(len(g.Co))][0] = v
	case 7:
		g.Data = w.pairs()
	case 8:
		g.Locs = v
	}
	return g
}

// T5, R1: any graph: an answer, or an error.
func TestAnyGraph(t *testing.T) {
	w := wild{rand.New(rand.NewSource(1))}
	for range 3000 {
		p := random(w.Rand)
		g := w.graph()
		if w.Intn(2) == 0 {
			if all, e := enum.All(p, []int{0, 1}); e == api.OK && len(all) > 0 {
				g = w.spoilt(all[w.Intn(len(all))])
			}
		}
		code, _ := lower.Lower(p)
		for _, e := range []api.Errno{gen.Generated(p, g), pgraph.Generated(code, g)} {
			if e != api.OK && e != api.ErrGraph && e != api.ErrGen {
				t.Error(e)
			}
		}
		if !graph.Check(g) && (imm.Consistent(g) || power.Consistent(g) || gen.Generated(p, g) != api.ErrGraph) {
			t.Error("a graph that is none")
		}
		lift.Lift(p, g)
		mem.Final(g)
		gen.Reads(g, w.number())
		for _, f := range []func(api.Graph) *rel.Rel{graph.Po, eco.Rf, eco.Co, eco.Fr, eco.Eco, eco.Loc, sync.Rs, sync.Release, sync.Sw, sync.Hb, order.Bob, order.Deps, order.Ppo, order.Detour, order.Psc, order.Ar, ppo.Rdw, ppo.Detour, ppo.Ppo, power.Sync, power.Fences, power.Hb, power.Prop} {
			if r := f(g); r == nil || r.Len() != min(len(g.Events), api.MaxEvents) {
				t.Error("no relation over its events")
			}
		}
		imm.Coherent(g)
		imm.Atomic(g)
		imm.Ordered(g)
	}
}

// T5, R1: any program, any certificate.
func TestAnyProgram(t *testing.T) {
	w := wild{rand.New(rand.NewSource(2))}
	for range 3000 {
		p := random(w.Rand)
		q := random(w.Rand)
		l := p.Threads[w.Intn(len(p.Threads))]
		if len(l) > 0 {
			i := &l[w.Intn(len(l))]
			*[]*int{&i.Kind, &i.Mode, &i.Mode2, &i.Reg, &i.Loc, &i.N}[w.Intn(6)] = w.number()
		}
		steps := make([]api.Step, w.Intn(23))
		for n := range steps {
			steps[n] = api.Step{Rule: w.number(), Thread: w.number(), At: w.number(), Mode: w.number()}
		}
		cert.Text(steps)
		lang.Text(p)
		for _, v := range []api.Verdict{valid.Check(p, q, steps), valid.Check(q, p, steps), valid.Check(q, p, nil)} {
			if v.Err < api.OK || v.Err > api.ErrMatch || v.At < 0 || v.At > len(steps) {
				t.Error(v)
			}
		}
		code, e := lower.Lower(p)
		if e != api.OK && len(code.Threads) > 0 {
			t.Error("code beside an error")
		}
	}
}
