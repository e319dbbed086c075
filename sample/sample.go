// Package sample: programs and graphs for tests. What is none makes it panic.
package sample

import (
	"slices"
	"strings"

	"exegesis/api"
	"exegesis/asm"
	"exegesis/gen"
	"exegesis/lang"
	"exegesis/pgraph"
)

// lines is a text whose lines are divided by semicolons, and trimmed.
func lines(text string) string {
	l := strings.Split(text, ";")
	for i, s := range l {
		l[i] = strings.TrimSpace(s)
	}
	return strings.Join(l, "\n")
}

// Program is the program of a text whose lines are divided by semicolons.
func Program(text string) api.Prog {
	p, _, e := lang.Parse(lines(text))
	if e != api.OK {
		panic("no program: " + text)
	}
	return p
}

// Power is the same for programs of POWER.
func Power(text string) api.PProg {
	p, _, e := asm.Parse(lines(text))
	if e != api.OK {
		panic("no program: " + text)
	}
	return p
}

// Graph is the graph of a program whose reads, in order, read from some writes, and whose writes come in some order (the first ones left out).
func Graph(text string, from []int, co ...[]int) api.Graph {
	p := Program(text)
	m := maker{len(p.Threads), func(reads [][]int) (api.Graph, api.Errno) { return gen.Skeleton(p, reads) }}
	g, ok := m.graph(from, co)
	if !ok || gen.Generated(p, g) != api.OK {
		panic("no graph: " + text)
	}
	return g
}

// PGraph is the same for programs of POWER.
func PGraph(text string, from []int, co ...[]int) api.Graph {
	p := Power(text)
	m := maker{len(p.Threads), func(reads [][]int) (api.Graph, api.Errno) { return pgraph.Skeleton(p, reads) }}
	g, ok := m.graph(from, co)
	if !ok || pgraph.Generated(p, g) != api.OK {
		panic("no graph: " + text)
	}
	return g
}

// maker makes graphs of a program.
type maker struct {
	threads  int
	skeleton func(reads [][]int) (api.Graph, api.Errno)
}

func (m maker) graph(from []int, co [][]int) (api.Graph, bool) {
	g, ok := m.settled(from)
	for loc := range g.Locs {
		g.Co = append(g.Co, []int{loc})
		if loc < len(co) {
			g.Co[loc] = append(g.Co[loc], co[loc]...)
		}
	}
	return g, ok
}

// settled looks for the values that reads have if they read from there: it starts from zeros, and goes on till nothing changes.
func (m maker) settled(from []int) (api.Graph, bool) {
	values := make([]int, len(from))
	for range 50 {
		g, ok := m.divided(values, nil)
		if !ok {
			return api.Graph{}, false
		}
		var now []int
		for _, e := range g.Events {
			source := -1
			if e.Kind == api.Read {
				source = from[len(now)]
				now = append(now, g.Events[source].Value)
			}
			g.Rf = append(g.Rf, source)
		}
		if slices.Equal(now, values) {
			return g, true
		}
		values = now
	}
	return api.Graph{}, false
}

// divided is the skeleton of a program whose reads, all in order, have some values behind those that were dealt out.
func (m maker) divided(values []int, dealt [][]int) (api.Graph, bool) {
	if len(dealt) == m.threads {
		g, e := m.skeleton(dealt)
		return g, e == api.OK && len(values) == 0
	}
	for n := 0; n <= len(values); n++ {
		if g, ok := m.divided(values[n:], append(slices.Clip(dealt), values[:n])); ok {
			return g, true
		}
	}
	return api.Graph{}, false
}
