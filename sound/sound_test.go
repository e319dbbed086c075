package sound_test

import (
	"math"
	"math/rand"
	"slices"
	"testing"

	"exegesis/api"
	"exegesis/expr"
	"exegesis/lang"
	"exegesis/sound"
)

func e(s string) []api.Tok {
	l, ok := expr.Parse(s)
	if !ok {
		panic(s)
	}
	return l
}

func times(n int, i api.Instr) []api.Instr {
	var l []api.Instr
	for range n {
		l = append(l, i)
	}
	return l
}

// P4.1: each mode of each kind.
func TestModes(t *testing.T) {
	for _, x := range []struct {
		i             api.Instr
		modes, modes2 []int
	}{
		{api.Instr{Kind: api.Load}, []int{api.Rlx, api.Acq}, []int{0}},
		{api.Instr{Kind: api.Store, E: e("1")}, []int{api.Rlx, api.Rel}, []int{0}},
		{api.Instr{Kind: api.Fence}, []int{api.Acq, api.Rel, api.AcqRel, api.SC}, []int{0}},
		{api.Instr{Kind: api.Faa, E: e("1")}, []int{api.Rlx, api.Acq}, []int{api.Rlx, api.Rel}},
		{api.Instr{Kind: api.Set, E: e("1")}, []int{0}, []int{0}},
		{api.Instr{Kind: api.Skip, E: e("1")}, []int{0}, []int{0}},
		{api.Instr{}, nil, nil}, {api.Instr{Kind: 7}, nil, nil}, {api.Instr{Kind: -1}, nil, nil}, {api.Instr{Kind: math.MaxInt}, nil, nil},
	} {
		for m := -2; m < 8; m++ {
			for m2 := -2; m2 < 8; m2++ {
				x.i.Mode, x.i.Mode2 = m, m2
				if sound.Instr(x.i, 1, 0) != (slices.Contains(x.modes, m) && slices.Contains(x.modes2, m2)) {
					t.Error(x.i)
				}
			}
		}
		x.i.Mode, x.i.Mode2 = 64, 0
		if sound.Instr(x.i, 1, 0) {
			t.Error(x.i)
		}
	}
}

// P4.1: everything else.
func TestInstr(t *testing.T) {
	load, store, fence := api.Instr{Kind: api.Load}, api.Instr{Kind: api.Store, E: e("r1")}, api.Instr{Kind: api.Fence, Mode: api.SC}
	faa, set, skip := api.Instr{Kind: api.Faa, E: e("1")}, api.Instr{Kind: api.Set, E: e("r7")}, api.Instr{Kind: api.Skip, E: e("r1")}
	for k, i := range []api.Instr{load, store, fence, faa, set, skip} {
		if !sound.Instr(i, 1, 0) {
			t.Error(i)
		}
		hasReg, hasLoc, hasE, hasN := k == 0 || k == 3 || k == 4, k == 0 || k == 1 || k == 3, k != 0 && k != 2, k == 5
		for _, v := range []int{math.MinInt, -1, 0, 1, 3, 4, 7, 8, 12, 13, math.MaxInt} {
			reg, loc, n := i, i, i
			reg.Reg, loc.Loc, n.N = v, v, v
			if sound.Instr(reg, 4, 12) != (v == 0 || hasReg && v > 0 && v < 8) {
				t.Error("reg", reg)
			}
			for _, locs := range []int{1, 4, 9} {
				if sound.Instr(loc, locs, 12) != (v == 0 || hasLoc && v > 0 && v < locs) {
					t.Error("loc", loc, locs)
				}
			}
			for _, left := range []int{0, 3, 12, math.MaxInt} {
				if sound.Instr(n, 4, left) != (v == 0 || hasN && v > 0 && v <= left) {
					t.Error("n", n, left)
				}
			}
		}
		if sound.Instr(i, 0, 12) == hasLoc || sound.Instr(i, -1, 12) == hasLoc || sound.Instr(i, 1, -1) == hasN {
			t.Error("no locations, nothing behind it", i)
		}
		for _, x := range []struct {
			e  []api.Tok
			ok bool
		}{{nil, !hasE}, {e("5"), hasE}, {e("r2"), hasE}, {e("1 r2 +"), hasE}, {e("r0"), hasE && k != 3}, {e("1 r0 + 1 r2 + +"), hasE && k != 3}, {e("1 1 1 1 + + +"), hasE}, {e("1 1 1 1 1 + + + +"), hasE && k != 3}, {e("1 2 +")[:2], false}, {[]api.Tok{{Kind: api.Const, V: 1 << 40}}, false}, {[]api.Tok{{Kind: api.Reg, V: 8}}, false}} {
			i.E = x.e
			if sound.Instr(i, 1, 0) != x.ok {
				t.Error(i)
			}
		}
	}
}

// P4.2
func TestCounts(t *testing.T) {
	l := []api.Instr{{Kind: api.Load}, {Kind: api.Store}, {Kind: api.Fence}, {Kind: api.Faa}, {Kind: api.Set}, {Kind: api.Skip}, {}, {Kind: 77}, {Kind: -5}}
	if sound.Events(l) != 5 || sound.Events(nil) != 0 || sound.Paths(l) != 2 || sound.Paths(nil) != 1 {
		t.Error(sound.Events(l), sound.Paths(l))
	}
	for _, x := range []struct{ skips, paths int }{{1, 2}, {6, 64}, {7, 128}, {19, 1 << 19}, {20, 1000000}, {100, 1000000}} {
		if n := sound.Paths(times(x.skips, api.Instr{Kind: api.Skip})); n != x.paths {
			t.Error(x, n)
		}
	}
}

// P4.2
func TestCheck(t *testing.T) {
	load, bad, skip := api.Instr{Kind: api.Load}, api.Instr{Kind: api.Store, Mode: api.Acq, E: e("1")}, api.Instr{Kind: api.Skip, E: e("1")}
	faa, set := api.Instr{Kind: api.Faa, E: e("1")}, api.Instr{Kind: api.Set, E: e("1")}
	threads := func(l ...[]api.Instr) [][]api.Instr { return l }
	for i, x := range []struct {
		p api.Prog
		e api.Errno
	}{
		{api.Prog{}, api.ErrForm}, {api.Prog{Locs: 1}, api.ErrForm}, {api.Prog{Locs: 0, Threads: threads(nil)}, api.ErrForm}, {api.Prog{Locs: -1, Threads: threads(nil)}, api.ErrForm}, {api.Prog{Locs: 5, Threads: threads(nil)}, api.ErrForm}, {api.Prog{Locs: 1, Threads: threads(nil)}, api.OK}, {api.Prog{Locs: 4, Threads: make([][]api.Instr, 4)}, api.OK},
		{api.Prog{Locs: 4, Threads: make([][]api.Instr, 5)}, api.ErrBig}, {api.Prog{Locs: 5, Threads: make([][]api.Instr, 5)}, api.ErrForm},
		{api.Prog{Locs: 1, Threads: threads(nil, []api.Instr{bad})}, api.ErrForm}, {api.Prog{Locs: 1, Threads: threads(nil, []api.Instr{{Kind: api.Load, Loc: 1}})}, api.ErrForm}, {api.Prog{Locs: 2, Threads: threads(nil, []api.Instr{{Kind: api.Load, Loc: 1}})}, api.OK},
		{api.Prog{Locs: 1, Threads: threads(times(12, load))}, api.OK}, {api.Prog{Locs: 1, Threads: threads(times(13, load))}, api.ErrBig}, {api.Prog{Locs: 1, Threads: threads(nil, nil, nil, times(13, set))}, api.ErrBig}, {api.Prog{Locs: 1, Threads: threads(append(times(13, load), bad))}, api.ErrForm},
		{api.Prog{Locs: 4, Threads: threads(times(12, load), times(12, load), times(12, load))}, api.OK}, {api.Prog{Locs: 4, Threads: threads(times(12, load), times(12, load), times(12, load), times(1, load))}, api.ErrBig}, {api.Prog{Locs: 3, Threads: threads(times(12, load), times(12, load), times(12, load), times(1, load))}, api.OK},
		{api.Prog{Locs: 4, Threads: threads(times(12, faa), times(6, faa))}, api.OK}, {api.Prog{Locs: 4, Threads: threads(times(12, faa), append(times(6, faa), load))}, api.ErrBig}, {api.Prog{Locs: 1, Threads: threads(times(12, set), times(12, set), times(12, set), times(12, set))}, api.OK},
		{api.Prog{Locs: 1, Threads: threads(times(6, skip))}, api.OK}, {api.Prog{Locs: 1, Threads: threads(times(6, skip), times(6, skip))}, api.OK}, {api.Prog{Locs: 1, Threads: threads(nil, times(7, skip))}, api.ErrBig},
		{api.Prog{Locs: 1, Threads: threads([]api.Instr{{Kind: api.Skip, E: e("1"), N: 1}, load})}, api.OK}, {api.Prog{Locs: 1, Threads: threads([]api.Instr{{Kind: api.Skip, E: e("1"), N: 2}, load})}, api.ErrForm},
	} {
		if got := sound.Check(x.p); got != x.e {
			t.Error(i, x, got)
		}
	}
	for s, may := range map[string]bool{"store x acq 1": false, "r3 = faa x rlx rlx r2 r4 *": true, "r3 = faa x rlx rlx r2 r3 *": false, "r3 = faa x rlx rlx 1": true, "r3 = r3": true} {
		if i, ok := lang.ParseLine(s); !ok || sound.Instr(i, 1, 0) != may {
			t.Error(s)
		}
	}
}

// P4.3
func TestLeftOut(t *testing.T) {
	rnd := rand.New(rand.NewSource(1))
	lines := []string{"r1 = load x acq", "store y rel r1", "fence sc", "r2 = faa z acq rel 2", "r3 = r1 r2 +", "store w rlx 1", "r7 = load w rlx"}
	for range 500 {
		p := api.Prog{Locs: 4, Threads: make([][]api.Instr, 1+rnd.Intn(4))}
		for range rnd.Intn(30) {
			i, _ := lang.ParseLine(lines[rnd.Intn(len(lines))])
			at := rnd.Intn(len(p.Threads))
			p.Threads[at] = append(p.Threads[at], i)
		}
		if sound.Check(p) != api.OK {
			continue
		}
		for at, l := range p.Threads {
			for j := range l {
				q := api.Prog{Locs: p.Locs, Threads: slices.Clone(p.Threads)}
				q.Threads[at] = slices.Delete(slices.Clone(l), j, j+1)
				if sound.Check(q) != api.OK {
					t.Error(q)
				}
			}
		}
	}
}
