package explore

import (
	"math/rand"
	"slices"
	"testing"

	"exegesis/api"
	"exegesis/gen"
	"exegesis/graph"
	"exegesis/lang"
	"exegesis/sound"
	"exegesis/thread"
)

// looked is what the search asks of a thread.
func looked(l []api.Instr) Thread {
	var t Thread
	for _, i := range l {
		if i.Kind == api.Load || i.Kind == api.Faa {
			t.Reads++
		}
		if i.Kind == api.Store || i.Kind == api.Faa {
			t.Writes[i.Loc]++
		}
	}
	probed := append(slices.Clone(l), api.Instr{Kind: api.Fence, Mode: api.SC})
	t.Probe = func(values []int) Probe {
		run, _ := thread.Do(probed, values)
		return Probe{Events: run.Events, Data: run.Data, Ctrl: run.Ctrl}
	}
	return t
}

// What is found does not hang on how soon a thread counts as one that may do too much.
func TestPatience(t *testing.T) {
	rnd := rand.New(rand.NewSource(1))
	lines := []string{"r1 = load x rlx", "r2 = load y rlx", "r3 = load x rlx", "store x rlx 1", "store y rlx r1", "store x rlx r2 r1 +", "store y rlx 2", "r1 = faa x rlx rlx 1", "r2 = faa y rlx rlx r1", "skip 1 r1", "skip 1 r2 r1 =", "r1 = r1 1 +", "store y rlx r1 r1 -"}
	graphs := 0
	for range 1500 {
		p := api.Prog{Locs: 2, Threads: make([][]api.Instr, 1+rnd.Intn(3))}
		for range 1 + rnd.Intn(9) {
			at := rnd.Intn(len(p.Threads))
			i, _ := lang.ParseLine(lines[rnd.Intn(len(lines))])
			p.Threads[at] = append(p.Threads[at], i)
		}
		if sound.Check(p) != api.OK {
			continue
		}
		skeleton := func(reads [][]int) api.Graph {
			g, _ := gen.Skeleton(p, reads)
			return g
		}
		var threads []Thread
		for _, l := range p.Threads {
			threads = append(threads, looked(l))
		}
		domain := [][]int{{0, 1, 2}, {3, 2, 1, 0}, {1, 2}}[rnd.Intn(3)]
		want, ok := All(2, threads, domain, skeleton)
		for _, patience := range []int{1, 2, 5, 20} {
			s := &search{domain: domain, locs: 2, threads: threads, patience: patience}
			got, fits := s.run(skeleton)
			if ok != fits || !slices.EqualFunc(got, want, graph.Same) {
				t.Fatal(lang.Text(p), domain, patience, len(got), len(want))
			}
		}
		graphs += len(want)
	}
	if graphs < 5000 {
		t.Error(graphs)
	}
}
