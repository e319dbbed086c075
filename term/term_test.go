package term_test

import (
	"math"
	"math/rand"
	"strings"
	"testing"

	"exegesis/api"
	"exegesis/expr"
	"exegesis/term"
)

var num, read, mk = term.Num, term.Read, term.Make

func op(v int, l, r *term.Term) *term.Term { return &term.Term{Kind: api.Op, V: v, L: l, R: r} }

// P22.1: what Make makes, by its Text.
func TestMake(t *testing.T) {
	a, b := read(0), read(1)
	sum := mk(api.Add, a, b)
	for i, x := range []struct {
		t *term.Term
		s string
	}{
		{num(-5), "-5"}, {num(0), "0"}, {read(0), "i0"}, {read(12), "i12"},
		{mk(api.Add, num(2), num(3)), "5"}, {mk(api.Sub, num(2), num(3)), "-1"}, {mk(api.Mul, num(2), num(3)), "6"}, {mk(api.Xor, num(2), num(3)), "1"}, {mk(api.Eq, num(2), num(3)), "0"}, {mk(api.Eq, num(3), num(3)), "1"}, {mk(api.Lt, num(2), num(3)), "1"}, {mk(api.Lt, num(3), num(3)), "0"},
		{mk(api.Add, num(math.MaxInt), num(1)), "-9223372036854775808"}, {mk(api.Mul, num(1<<40), num(1<<40)), "0"}, {mk(api.Mul, num(1<<31), num(1<<31)), "4611686018427387904"},
		// The places: by bytes; of Sub, Lt never.
		{mk(api.Add, a, b), "(i0 + i1)"}, {mk(api.Add, b, a), "(i0 + i1)"}, {mk(api.Mul, b, a), "(i0 * i1)"}, {mk(api.Xor, b, a), "(i0 ^ i1)"}, {mk(api.Eq, b, a), "(i0 = i1)"}, {mk(api.Sub, b, a), "(i1 - i0)"}, {mk(api.Lt, b, a), "(i1 < i0)"}, {mk(api.Sub, a, b), "(i0 - i1)"}, {mk(api.Lt, a, b), "(i0 < i1)"},
		{mk(api.Add, a, num(7)), "(7 + i0)"}, {mk(api.Add, num(7), a), "(7 + i0)"}, {mk(api.Add, a, num(-7)), "(-7 + i0)"}, {mk(api.Add, read(2), read(10)), "(i10 + i2)"}, {mk(api.Add, num(7), sum), "((i0 + i1) + 7)"}, {mk(api.Add, num(-7), sum), "((i0 + i1) + -7)"}, {mk(api.Mul, a, sum), "((i0 + i1) * i0)"},
		{mk(api.Add, mk(api.Sub, read(1), a), mk(api.Sub, read(12), a)), "((i1 - i0) + (i12 - i0))"}, {mk(api.Add, mk(api.Sub, read(12), a), mk(api.Sub, read(1), a)), "((i1 - i0) + (i12 - i0))"}, {mk(api.Add, mk(api.Sub, a, read(12)), mk(api.Sub, a, read(1))), "((i0 - i1) + (i0 - i12))"},
		// 0 and 1.
		{mk(api.Add, a, num(0)), "i0"}, {mk(api.Add, num(0), a), "i0"}, {mk(api.Xor, a, num(0)), "i0"}, {mk(api.Xor, num(0), a), "i0"}, {mk(api.Sub, a, num(0)), "i0"}, {mk(api.Sub, num(0), a), "(0 - i0)"}, {mk(api.Sub, a, a), "(i0 - i0)"},
		{mk(api.Mul, a, num(0)), "0"}, {mk(api.Mul, num(0), a), "0"}, {mk(api.Mul, a, num(1)), "i0"}, {mk(api.Mul, num(1), sum), "(i0 + i1)"}, {mk(api.Mul, sum, num(0)), "0"}, {mk(api.Mul, sum, num(2)), "((i0 + i1) * 2)"}, {mk(api.Add, sum, num(0)), "(i0 + i1)"},
		{mk(api.Eq, a, num(0)), "(0 = i0)"}, {mk(api.Eq, a, a), "(i0 = i0)"}, {mk(api.Lt, a, num(0)), "(i0 < 0)"}, {mk(api.Lt, num(0), a), "(0 < i0)"}, {mk(api.Add, a, num(1)), "(1 + i0)"}, {mk(api.Xor, a, a), "(i0 ^ i0)"},
		// No operation; nil.
		{mk(0, a, b), "0"}, {mk(7, a, b), "0"}, {mk(-1, num(5), num(5)), "0"}, {mk(math.MaxInt, a, b), "0"}, {mk(api.Add, nil, nil), "0"}, {mk(api.Add, nil, a), "i0"}, {mk(api.Eq, nil, nil), "1"}, {mk(api.Sub, nil, a), "(0 - i0)"}, {mk(api.Sub, a, nil), "i0"}, {mk(api.Mul, nil, a), "0"}, {mk(api.Lt, a, nil), "(i0 < 0)"}, {nil, "0"}, {op(api.Sub, nil, nil), "(0 - 0)"},
		{op(api.Add, num(1), num(1)), "(1 + 1)"}, {read(-3), "i-3"},
	} {
		if s := term.Text(x.t); s != x.s {
			t.Errorf("%d: %q, not %q", i, s, x.s)
		}
	}
}

func tokens(s string) []api.Tok {
	e, ok := expr.Parse(s)
	if !ok {
		panic(s)
	}
	return e
}

// P22.1
func TestOf(t *testing.T) {
	regs := []*term.Term{read(0), nil, mk(api.Add, read(1), num(2))}
	for _, x := range []struct{ s, text string }{
		{"5", "5"}, {"r0", "i0"}, {"r1", "0"}, {"r7", "0"}, {"r2", "(2 + i1)"}, {"r0 r2 -", "(i0 - (2 + i1))"}, {"r0 1 1 - +", "i0"}, {"r0 1 + 2 +", "((1 + i0) + 2)"}, {"r0 r0 * r1 *", "0"}, {"1 2 3 - -", "2"}, {"r3 r4 =", "1"},
	} {
		if got := term.Text(term.Of(tokens(x.s), regs)); got != x.text {
			t.Error(x, got)
		}
	}
	if term.Text(term.Of(tokens("r0 1 +"), nil)) != "1" {
		t.Error("no registers")
	}
	for _, e := range [][]api.Tok{nil, {{Kind: api.Op, V: 1}}, {{Kind: api.Reg, V: -1}}, {{Kind: 9}}} {
		term.Of(e, regs)
	}
}

// P22.2
func TestSame(t *testing.T) {
	l := []*term.Term{num(0), num(1), read(0), read(1), mk(api.Add, read(0), read(1)), op(api.Add, read(1), read(0)), mk(api.Sub, read(0), read(1)), mk(api.Mul, read(0), read(1)), op(api.Add, mk(api.Add, read(0), read(1)), num(0)), op(api.Add, num(0), mk(api.Add, read(0), read(1)))}
	again := []*term.Term{nil, num(1), read(0), read(1), mk(api.Add, read(1), read(0)), op(api.Add, read(1), read(0)), op(api.Sub, read(0), read(1)), mk(api.Mul, read(1), read(0)), op(api.Add, op(api.Add, read(0), read(1)), nil), op(api.Add, nil, op(api.Add, read(0), read(1)))}
	for i, a := range l {
		for j, b := range again {
			if term.Same(a, b) != (i == j) || term.Same(b, a) != (i == j) || !term.Same(a, a) {
				t.Error(i, j)
			}
		}
	}
	if !term.Same(nil, nil) {
		t.Error("nil")
	}
}

// P22.2
func TestSizeEval(t *testing.T) {
	reads := []int{10, -3, math.MaxInt}
	for i, x := range []struct {
		t       *term.Term
		size, v int
	}{
		{nil, 1, 0}, {num(4), 1, 4}, {read(1), 1, -3}, {read(3), 1, 0}, {read(-1), 1, 0}, {read(math.MaxInt), 1, 0}, {op(api.Sub, read(0), read(1)), 3, 13}, {op(api.Add, read(2), num(1)), 3, math.MinInt}, {op(api.Mul, op(api.Add, read(0), nil), op(api.Lt, read(1), read(0))), 7, 10}, {op(api.Eq, read(0), num(10)), 3, 1}, {op(api.Xor, num(6), num(3)), 3, 5},
	} {
		if term.Size(x.t) != x.size || term.Eval(x.t, reads) != x.v {
			t.Error(i, term.Size(x.t), term.Eval(x.t, reads))
		}
	}
	if term.Eval(read(0), nil) != 0 {
		t.Error("no reads")
	}
}

// P22.2, R1: terms may share parts, so that what is written of them is beyond all bounds.
func TestShared(t *testing.T) {
	a, b, c := read(0), read(0), read(0)
	for i := range 100 {
		a, b, c = mk(api.Add, a, a), mk(api.Add, b, b), mk(api.Add, c, c)
		if i == 17 && term.Size(a) != 1<<19-1 || i == 18 && term.Size(a) != 1000000 {
			t.Error(i, term.Size(a))
		}
		if i == 60 {
			c = mk(api.Sub, c, read(1))
		}
	}
	if !term.Same(a, b) || term.Same(a, c) || term.Eval(a, []int{3}) != 0 || term.Size(a) != 1000000 {
		t.Error("shared")
	}
	if d := mk(api.Mul, c, a); d.L != a && d.L != c {
		t.Error("made of others")
	}
	// Alike on the left, and beyond all bounds: what is on the right says the places.
	first, second := op(api.Sub, a, read(0)), op(api.Sub, b, read(1))
	if u, v := mk(api.Add, first, second), mk(api.Add, second, first); u.L != first || v.L != first {
		t.Error("places of what is alike on the left")
	}
	x, y := mk(api.Eq, a, b), mk(api.Eq, b, a)
	if !term.Same(x, y) {
		t.Error("places")
	}
	if d, e := mk(api.Xor, a, c), mk(api.Xor, c, a); d.L != e.L || d.R != e.R {
		t.Error("the places hang on the order")
	}
}

// R1: a term that is a part of itself, and one that is very deep.
func TestStrange(t *testing.T) {
	loop := op(api.Add, nil, num(1))
	loop.L = op(api.Mul, loop, read(0))
	other := op(api.Add, nil, num(2))
	other.L = other
	if term.Size(loop) != 1000000 {
		t.Error(term.Size(loop))
	}
	term.Eval(loop, []int{1})
	term.Same(loop, other)
	term.Text(loop)
	mk(api.Add, loop, other)
	mk(api.Add, other, loop)
	for _, x := range []*term.Term{{}, {Kind: 7, V: 3}, {Kind: api.Op}, {Kind: api.Op, V: 99, L: num(1)}, {Kind: -1}} {
		term.Size(x)
		term.Text(x)
		term.Eval(x, nil)
		mk(api.Add, x, read(0))
		if !term.Same(x, x) {
			t.Error(x)
		}
	}
	deep, more := read(0), read(0)
	for range 60000 {
		deep, more = op(api.Sub, deep, num(1)), op(api.Sub, more, num(1))
	}
	if term.Eval(deep, []int{5}) != 5-60000 || term.Size(deep) != 120001 || !term.Same(deep, more) || len(term.Text(deep)) != 2+6*60000 {
		t.Error("deep")
	}
	if x, y := mk(api.Add, deep, op(api.Sub, more, read(3))), mk(api.Add, op(api.Sub, more, read(3)), deep); !term.Same(x, y) {
		t.Error("deep places")
	}
}

func random(rnd *rand.Rand, depth int) *term.Term {
	if depth == 0 || rnd.Intn(4) == 0 {
		if rnd.Intn(2) == 0 {
			return num(rnd.Intn(24) - 11)
		}
		return read(rnd.Intn(13))
	}
	return mk(1+rnd.Intn(6), random(rnd, depth-1), random(rnd, depth-1))
}

// P22.1: the places, against Text; the value is what it was.
func TestPlaces(t *testing.T) {
	rnd := rand.New(rand.NewSource(1))
	for range 5000 {
		a, b := random(rnd, 4), random(rnd, 4)
		for _, o := range []int{api.Add, api.Mul, api.Xor, api.Eq, api.Sub, api.Lt} {
			m := mk(o, a, b)
			first, second := term.Text(a), term.Text(b)
			if o != api.Sub && o != api.Lt && strings.Compare(second, first) < 0 {
				first, second = second, first
			}
			if m.Kind == api.Op && m.V == o && m != a && m != b && (term.Text(m.L) != first || term.Text(m.R) != second) {
				t.Error(term.Text(a), term.Text(b), term.Text(m))
			}
			reads := []int{1, 2, 3, rnd.Int(), 5, -6, 7, 8, 9, 10, 0, 1, 2}
			if term.Eval(m, reads) != term.Eval(op(o, a, b), reads) {
				t.Error(term.Text(m))
			}
			if term.Same(a, b) != (term.Text(a) == term.Text(b)) {
				t.Error(term.Text(a), term.Text(b))
			}
		}
	}
}

// P22.3
func TestEvalOf(t *testing.T) {
	rnd := rand.New(rand.NewSource(2))
	some := 0
	for range 50000 {
		var e []api.Tok
		for range 1 + rnd.Intn(7) {
			e = append(e, []api.Tok{{Kind: api.Const, V: rnd.Intn(4) - 1}, {Kind: api.Reg, V: rnd.Intn(5)}, {Kind: api.Op, V: 1 + rnd.Intn(6)}}[rnd.Intn(3)])
		}
		if !expr.Check(e) {
			continue
		}
		some++
		regs := []*term.Term{random(rnd, 2), random(rnd, 2), nil, random(rnd, 1)}
		reads := []int{rnd.Intn(5), rnd.Intn(5), rnd.Int(), -1}
		values := make([]int, len(regs))
		for i, r := range regs {
			values[i] = term.Eval(r, reads)
		}
		if term.Eval(term.Of(e, regs), reads) != expr.Eval(e, values) {
			t.Error(expr.Text(e))
		}
	}
	if some < 3000 {
		t.Error(some)
	}
}
