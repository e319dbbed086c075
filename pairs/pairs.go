// Package pairs: pairs in order.
package pairs

import (
	"cmp"
	"slices"

	"exegesis/api"
)

// Compare orders pairs by A, then B.
func Compare(p, q api.Pair) int {
	return cmp.Or(cmp.Compare(p.A, q.A), cmp.Compare(p.B, q.B))
}

// Sort puts pairs in order, each once; the list may not be used any more.
func Sort(l []api.Pair) []api.Pair {
	slices.SortFunc(l, Compare)
	return slices.Clip(slices.Compact(l))
}

// Rising tells whether each pair is above the one ahead.
func Rising(l []api.Pair) bool {
	for i := 1; i < len(l); i++ {
		if Compare(l[i-1], l[i]) >= 0 {
			return false
		}
	}
	return true
}
