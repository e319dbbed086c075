// Package explore: all graphs that threads make, if what they read is of a domain.
//
// There may be far more lists of values than graphs, so that lists are not tried one by one. A read that neither a write nor the way depends on is left open till all writes are known; of the others only those values are tried that somebody may write.
package explore

import (
	"slices"

	"exegesis/api"
)

// mostProbes is the patience that there is.
const mostProbes = 1 << 15

// Thread is what is asked of a thread.
type Thread struct {
	// Probe is what the thread does, if its reads have some values; there are always enough.
	Probe func(values []int) Probe
	// Reads is how many reads there are at most.
	Reads int
	// Writes is how many writes of each location there are at most.
	Writes [api.MaxLocs]int
}

// Probe is what a thread did, and which reads its writes depend on, and its control. Behind its last event there is a fence more: what that depends on is what the way depends on.
type Probe struct {
	Events     []api.Event
	Data, Ctrl []api.Pair
}

// Domain is the values that reads may have: the first ones of a list, each once.
func Domain(l []int) []int {
	var d []int
	for _, v := range l[:min(len(l), api.MaxDomain)] {
		if !slices.Contains(d, v) {
			d = append(d, v)
		}
	}
	return d
}

// mask is a set of values, by their places in the domain, for each location.
type mask uint32

func bit(loc, value int) mask { return 1 << (loc*api.MaxDomain + value) }

func all(loc int) mask { return (1<<api.MaxDomain - 1) << (loc * api.MaxDomain) }

// search looks for all ways in which threads' reads find what they read.
type search struct {
	domain   []int
	locs     int
	threads  []Thread
	patience int              // how often a thread is probed till it counts as one that may do too much
	first    mask             // what the first writes write
	writes   [api.MaxLocs]int // how many other writes of each location there are at most
	may      []mask           // of each thread what it may write
	known    [][]group        // of each thread what it may do, if that is not too much
	order    []int            // the threads, those that may do least ahead
	picked   []group          // of each of these what it does
	found    [][]behaviour    // what threads do together, by their own numbers
	graphs   int              // of how many graphs
}

// All is all graphs, by their values, Rf, Co; false, if they are more than MaxGraphs. The skeleton of lists that the threads use just up is asked for.
func All(locs int, threads []Thread, domain []int, skeleton func(reads [][]int) api.Graph) ([]api.Graph, bool) {
	s := &search{domain: Domain(domain), locs: locs, threads: threads, patience: mostProbes}
	return s.run(skeleton)
}

func (s *search) run(skeleton func(reads [][]int) api.Graph) ([]api.Graph, bool) {
	s.bound()
	s.arrange()
	s.choose(0, 0, 0)
	if s.graphs > api.MaxGraphs {
		return nil, false
	}
	var l []api.Graph
	for _, reads := range s.lists() {
		for g := range settled(skeleton(reads)) {
			l = append(l, g)
		}
	}
	return l, true
}

// values is what is at some places of the domain.
func (s *search) values(places []int) []int {
	l := make([]int, len(places))
	for i, d := range places {
		l[i] = s.domain[d]
	}
	return l
}

// lists is the values that threads read, of all that was found, in order.
func (s *search) lists() [][][]int {
	var places [][][]int
	for _, chosen := range s.found {
		places = append(places, s.closed(chosen)...)
	}
	slices.SortFunc(places, func(a, b [][]int) int { return slices.CompareFunc(a, b, slices.Compare) })
	for _, reads := range places {
		for t, l := range reads {
			reads[t] = s.values(l)
		}
	}
	return places
}
