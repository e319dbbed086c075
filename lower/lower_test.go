package lower_test

import (
	"math"
	"math/rand"
	"reflect"
	"slices"
	"strings"
	"testing"

	"exegesis/api"
	"exegesis/asm"
	"exegesis/lang"
	"exegesis/lower"
	"exegesis/sample"
	"exegesis/sound"
)

// P16.1
func TestLower(t *testing.T) {
	for _, x := range []struct {
		text, code string
		sizes      []int
	}{
		{"r1 = load x rlx", "ld r1 x", []int{1}}, {"r7 = load w acq", "ld r7 w; bc 0 r7; isync", []int{3}},
		{"store y rlx r1 1 +", "st y r1 1 +", []int{1}}, {"store y rel 5", "lwsync; st y 5", []int{2}},
		{"fence acq; fence rel; fence acqrel; fence sc", "lwsync; lwsync; lwsync; sync", []int{1, 1, 1, 1}},
		{"r1 = faa x rlx rlx 1", "larx r1 x; stcx x r1 1 +; bc 0 r1", []int{3}}, {"r1 = faa x acq rlx 2 3 *", "larx r1 x; stcx x r1 2 3 * +; bc 0 r1; isync", []int{4}},
		{"r2 = faa z rlx rel 1", "lwsync; larx r2 z; stcx z r2 1 +; bc 0 r2", []int{4}}, {"r2 = faa z acq rel 1 1 1 1 + + +", "lwsync; larx r2 z; stcx z r2 1 1 1 1 + + + +; bc 0 r2; isync", []int{5}},
		{"r2 = faa z rlx rlx r1 r3 *", "larx r2 z; stcx z r2 r1 r3 * +; bc 0 r2", []int{3}}, {"r1 = r2 1 -", "mov r1 r2 1 -", []int{1}}, {"skip 0 r1", "bc 0 r1", []int{1}},
		{"skip 2 r1; r1 = load x acq; store x rel 1; fence sc", "bc 5 r1; ld r1 x; bc 0 r1; isync; lwsync; st x 1; sync", []int{1, 3, 2, 1}},
		{"fence sc; skip 3 1; skip 2 2; r1 = faa x acq rel 1; store x rel 1", "sync; bc 8 1; bc 7 2; lwsync; larx r1 x; stcx x r1 1 +; bc 0 r1; isync; lwsync; st x 1", []int{1, 1, 1, 5, 2}},
		{"skip 1 1; skip 1 1; fence sc", "bc 1 1; bc 1 1; sync", []int{1, 1, 1}},
	} {
		p := sample.Program("locs 4; thread; thread; " + x.text)
		q, e := lower.Lower(p)
		want := "locs 4\nthread\nthread\n" + strings.ReplaceAll(x.code, "; ", "\n") + "\n"
		if got := asm.Text(q); e != api.OK || got != want {
			t.Errorf("%s: %q %d", x.text, got, e)
		}
		if sizes := lower.Sizes(p.Threads[1]); !slices.Equal(sizes, x.sizes) {
			t.Error(x.text, sizes)
		}
		if asm.Check(q) != api.OK {
			t.Error(x.text)
		}
	}
	if len(lower.Sizes(nil)) != 0 {
		t.Error("none")
	}
}

// P16.1
func TestErrors(t *testing.T) {
	for _, x := range []struct {
		p api.Prog
		e api.Errno
	}{{api.Prog{}, api.ErrForm}, {api.Prog{Locs: math.MaxInt}, api.ErrForm}, {api.Prog{Locs: 1, Threads: make([][]api.Instr, 5)}, api.ErrBig}, {api.Prog{Locs: 1, Threads: [][]api.Instr{{{Kind: api.Load, Mode: api.SC}}}}, api.ErrForm}} {
		if q, e := lower.Lower(x.p); e != x.e || !reflect.DeepEqual(q, api.PProg{}) {
			t.Error(x, q, e)
		}
	}
	lower.Sizes([]api.Instr{{}, {Kind: -1}, {Kind: math.MaxInt}, {Kind: api.Skip, N: -7}, {Kind: api.Faa, Reg: -1, E: []api.Tok{{}}}})
}

// P16.2: what a program becomes is a program, as long as its sizes say, and shares nothing with it.
func TestFits(t *testing.T) {
	rnd := rand.New(rand.NewSource(1))
	lines := []string{"r1 = load x acq", "r1 = load x rlx", "store y rel r1", "store y rlx 1", "fence sc", "fence acq", "r2 = faa z acq rel 2", "r2 = faa z rlx rlx 2", "r3 = r1 r2 +", "skip 0 r1", "skip 1 r1", "skip 3 r2", "skip 7 1"}
	good := 0
	for range 3000 {
		p := api.Prog{Locs: 4, Threads: [][]api.Instr{nil}}
		for range rnd.Intn(13) {
			i, _ := lang.ParseLine(lines[rnd.Intn(len(lines))])
			p.Threads[0] = append(p.Threads[0], i)
		}
		if sound.Check(p) != api.OK {
			continue
		}
		good++
		text := lang.Text(p)
		q, e := lower.Lower(p)
		sum := 0
		for _, n := range lower.Sizes(p.Threads[0]) {
			sum += n
		}
		if e != api.OK || asm.Check(q) != api.OK || len(q.Threads[0]) != sum {
			t.Error(text, asm.Text(q))
		}
		for _, i := range q.Threads[0] {
			for j := range i.E {
				i.E[j] = api.Tok{}
			}
		}
		if lang.Text(p) != text {
			t.Error("shared", text)
		}
	}
	if good < 500 {
		t.Error(good)
	}
}
