package explore

import (
	"slices"

	"exegesis/api"
)

// settled is all graphs of a skeleton, by Rf, then Co. Each is new memory.
func settled(skeleton api.Graph) func(yield func(api.Graph) bool) {
	return func(yield func(api.Graph) bool) {
		writes := make([][]int, skeleton.Locs)
		for at, e := range skeleton.Events {
			if e.Kind == api.Write && at >= skeleton.Locs {
				writes[e.Loc] = append(writes[e.Loc], at)
			}
		}
		for rf := range sources(skeleton, nil) {
			for co := range orders(writes, nil) {
				g := skeleton
				g.Events, g.Rf, g.Co = slices.Clone(g.Events), slices.Clone(rf), co
				g.Rmw, g.Data, g.Ctrl, g.CtrlI = slices.Clone(g.Rmw), slices.Clone(g.Data), slices.Clone(g.Ctrl), slices.Clone(g.CtrlI)
				if !yield(g) {
					return
				}
			}
		}
	}
}

// sources is all ways to say from where events read that begin so.
func sources(g api.Graph, begin []int) func(yield func([]int) bool) {
	return func(yield func([]int) bool) {
		at := len(begin)
		if at == len(g.Events) {
			yield(begin)
			return
		}
		from := []int{-1}
		if g.Events[at].Kind == api.Read {
			from = written(g, g.Events[at])
		}
		for _, w := range from {
			for rf := range sources(g, append(slices.Clip(begin), w)) {
				if !yield(rf) {
					return
				}
			}
		}
	}
}

// written is the writes that a read may read from.
func written(g api.Graph, r api.Event) []int {
	var l []int
	for at, e := range g.Events {
		if e.Kind == api.Write && e.Loc == r.Loc && e.Value == r.Value {
			l = append(l, at)
		}
	}
	return l
}

// orders is all orders of the writes of locations that begin so, the first writes ahead.
func orders(writes [][]int, begin [][]int) func(yield func([][]int) bool) {
	return func(yield func([][]int) bool) {
		loc := len(begin)
		if loc == len(writes) {
			co := make([][]int, loc)
			for l, order := range begin {
				co[l] = slices.Clone(order)
			}
			yield(co)
			return
		}
		for order := range permutations([]int{loc}, writes[loc]) {
			for co := range orders(writes, append(slices.Clip(begin), order)) {
				if !yield(co) {
					return
				}
			}
		}
	}
}

// permutations is all lists that begin so and go on with rest, in rising order.
func permutations(begin, rest []int) func(yield func([]int) bool) {
	return func(yield func([]int) bool) {
		if len(rest) == 0 {
			yield(begin)
			return
		}
		for i, at := range rest {
			less := slices.Delete(slices.Clone(rest), i, i+1)
			for l := range permutations(append(slices.Clip(begin), at), less) {
				if !yield(l) {
					return
				}
			}
		}
	}
}
