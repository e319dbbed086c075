// Package fresh: copies that share no memory with what they are of.
package fresh

import (
	"slices"

	"exegesis/api"
)

// Prog is a program in new memory.
func Prog(p api.Prog) api.Prog {
	q := api.Prog{Locs: p.Locs}
	for _, l := range p.Threads {
		l = slices.Clone(l)
		for at := range l {
			l[at].E = slices.Clone(l[at].E)
		}
		q.Threads = append(q.Threads, l)
	}
	return q
}
