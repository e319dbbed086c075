// Package sample: programs and graphs for tests.
package sample

import (
	"strings"

	"exegesis/api"
	"exegesis/gen"
	"exegesis/graph"
	"exegesis/lang"
)

// Program is the program of a text whose lines are divided by semicolons, and trimmed; of one that is none it panics.
func Program(text string) api.Prog {
	lines := strings.Split(text, ";")
	for i, l := range lines {
		lines[i] = strings.TrimSpace(l)
	}
	p, _, e := lang.Parse(strings.Join(lines, "\n"))
	if e != api.OK {
		panic("no program: " + text)
	}
	return p
}

// Graph is the graph of a program whose reads, in order, read from some writes, and whose writes come in some order (the first ones left out); of one that is none it panics.
func Graph(text string, from []int, co ...[]int) api.Graph {
	p := Program(text)
	g, ok := settle(p, from)
	for l := range p.Locs {
		g.Co = append(g.Co, []int{l})
		if l < len(co) {
			g.Co[l] = append(g.Co[l], co[l]...)
		}
	}
	if !ok || gen.Generated(p, g) != api.OK || !graph.Check(g) {
		panic("no graph: " + text)
	}
	return g
}

// settle looks for the values that reads have if they read from there: it starts from zeros, and goes on till nothing changes.
func settle(p api.Prog, from []int) (api.Graph, bool) {
	values := make([]int, len(from))
	for range 50 {
		g, ok := divided(p, values)
		if !ok {
			return api.Graph{}, false
		}
		old := append([]int{}, values...)
		n := 0
		for _, e := range g.Events {
			g.Rf = append(g.Rf, -1)
			if e.Kind == api.Read {
				g.Rf[len(g.Rf)-1] = from[n]
				values[n] = g.Events[from[n]].Value
				n++
			}
		}
		if n == len(values) && equal(old, values) {
			return g, true
		}
	}
	return api.Graph{}, false
}

func equal(a, b []int) bool {
	for i := range a {
		if a[i] != b[i] {
			return false
		}
	}
	return true
}

// divided is the skeleton of a program whose reads, all in order, have some values.
func divided(p api.Prog, values []int) (api.Graph, bool) {
	var reads [][]int
	for range p.Threads {
		reads = append(reads, nil)
	}
	return try(p, values, reads, 0)
}

func try(p api.Prog, values []int, reads [][]int, t int) (api.Graph, bool) {
	if t == len(p.Threads) {
		g, e := gen.Skeleton(p, reads)
		return g, e == api.OK && len(values) == 0
	}
	for n := 0; n <= len(values); n++ {
		reads[t] = values[:n]
		if g, ok := try(p, values[n:], reads, t+1); ok {
			return g, true
		}
	}
	return api.Graph{}, false
}
