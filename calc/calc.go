// Package calc: what formulas of relations have in common.
package calc

import (
	"slices"

	"exegesis/api"
	"exegesis/eco"
	"exegesis/graph"
	"exegesis/rel"
)

// Then is one step of each, in order.
func Then(r *rel.Rel, more ...*rel.Rel) *rel.Rel {
	for _, s := range more {
		r = r.Then(s)
	}
	return r
}

// Or is what is in one of all.
func Or(r *rel.Rel, more ...*rel.Rel) *rel.Rel {
	for _, s := range more {
		r = r.Or(s)
	}
	return r
}

// Star is any number of steps.
func Star(r *rel.Rel) *rel.Rel { return r.Plus().Maybe() }

// Events is the events of a kind, each with itself: those of some modes, or, if none is named, all.
func Events(g api.Graph, kind int, modes ...int) *rel.Rel {
	return graph.Set(g, func(e api.Event) bool {
		return e.Kind == kind && (len(modes) == 0 || slices.Contains(modes, e.Mode))
	})
}

// Itself tells whether an event is with itself.
func Itself(r *rel.Rel) bool {
	for a := range r.Len() {
		if r.Has(a, a) {
			return true
		}
	}
	return false
}

// Accesses is all reads and writes, each with itself.
func Accesses(g api.Graph) *rel.Rel {
	return Events(g, api.Read).Or(Events(g, api.Write))
}

// Within is what stands ahead of what within a thread. The first writes have no order.
func Within(g api.Graph) *rel.Rel { return eco.Inner(g, graph.Po(g)) }

// WithinLoc is that of reads and writes of one location.
func WithinLoc(g api.Graph) *rel.Rel { return eco.Inner(g, eco.Loc(g)) }
