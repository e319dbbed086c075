// Package whole: graphs put together from what threads do, and taken apart.
package whole

import (
	"exegesis/api"
	"exegesis/graph"
)

// Part is what one thread did, by places of its own.
type Part struct {
	Events                 []api.Event
	Rmw, Data, Ctrl, CtrlI []api.Pair
}

// Graph is first writes and threads, without what reads from what, and what came first.
func Graph(locs int, parts []Part) api.Graph {
	g := api.Graph{Locs: locs}
	for l := range locs {
		g.Events = append(g.Events, api.Event{Kind: api.Write, Loc: l})
	}
	for t, p := range parts {
		from := len(g.Events)
		for _, e := range p.Events {
			e.Thread = t + 1
			g.Events = append(g.Events, e)
		}
		g.Rmw = moved(g.Rmw, p.Rmw, from)
		g.Data = moved(g.Data, p.Data, from)
		g.Ctrl = moved(g.Ctrl, p.Ctrl, from)
		g.CtrlI = moved(g.CtrlI, p.CtrlI, from)
	}
	return g
}

func moved(l, pairs []api.Pair, from int) []api.Pair {
	for _, p := range pairs {
		l = append(l, api.Pair{A: from + p.A, B: from + p.B})
	}
	return l
}

// Reads is of each thread from 1 to threads the values of its reads.
func Reads(g api.Graph, threads int) [][]int {
	l := make([][]int, min(max(threads, 0), api.MaxThreads))
	for _, e := range g.Events {
		if e.Kind == api.Read && 1 <= e.Thread && e.Thread <= len(l) {
			l[e.Thread-1] = append(l[e.Thread-1], e.Value)
		}
	}
	return l
}

// Of is those of some lists that are a thread's; none, if there are none.
func Of(reads [][]int, thread int) []int {
	if thread < len(reads) {
		return reads[thread]
	}
	return nil
}

// Fits tells whether a graph has just what a skeleton has.
func Fits(skeleton, g api.Graph) bool {
	skeleton.Rf, skeleton.Co = g.Rf, g.Co
	return graph.Same(skeleton, g)
}
