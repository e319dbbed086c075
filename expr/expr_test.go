package expr_test

import (
	"math"
	"math/rand"
	"slices"
	"strings"
	"testing"

	"exegesis/api"
	"exegesis/expr"
)

func c(v int) api.Tok { return api.Tok{Kind: api.Const, V: v} }
func r(v int) api.Tok { return api.Tok{Kind: api.Reg, V: v} }
func o(v int) api.Tok { return api.Tok{Kind: api.Op, V: v} }

func repeat(n int, l ...api.Tok) []api.Tok {
	var out []api.Tok
	for range n {
		out = append(out, l...)
	}
	return out
}

// P2.1
func TestCheck(t *testing.T) {
	longest := append([]api.Tok{c(1)}, repeat(4, r(0), o(api.Add))...)
	for i, x := range []struct {
		e  []api.Tok
		ok bool
	}{
		{nil, false}, {[]api.Tok{}, false}, {[]api.Tok{c(0)}, true}, {[]api.Tok{r(7)}, true}, {[]api.Tok{r(8)}, false}, {[]api.Tok{r(-1)}, false},
		{[]api.Tok{c(math.MaxInt32)}, true}, {[]api.Tok{c(math.MaxInt32 + 1)}, false}, {[]api.Tok{c(math.MinInt32)}, true}, {[]api.Tok{c(math.MinInt32 - 1)}, false}, {[]api.Tok{c(math.MinInt64)}, false},
		{[]api.Tok{c(1), c(2)}, false}, {[]api.Tok{c(1), o(api.Add)}, false}, {[]api.Tok{o(api.Add)}, false}, {[]api.Tok{c(1), o(api.Add), c(2)}, false},
		{[]api.Tok{c(1), c(2), o(api.Add)}, true}, {[]api.Tok{c(1), c(2), o(0)}, false}, {[]api.Tok{c(1), c(2), o(api.Lt)}, true}, {[]api.Tok{c(1), c(2), o(api.Lt + 1)}, false}, {[]api.Tok{c(1), c(2), o(-1)}, false},
		{[]api.Tok{{}}, false}, {[]api.Tok{{Kind: 4, V: 1}}, false}, {[]api.Tok{{Kind: -1, V: 1}}, false},
		{longest, true}, {append(slices.Clone(longest), r(0), o(api.Add)), false}, {repeat(9, c(1)), false}, {repeat(10, c(1)), false},
		{append(repeat(5, c(1)), repeat(4, o(api.Xor))...), true},
	} {
		if expr.Check(x.e) != x.ok {
			t.Error(i, x)
		}
	}
}

// P2.2
func TestText(t *testing.T) {
	for _, x := range []struct {
		e []api.Tok
		s string
	}{
		{[]api.Tok{c(0)}, "0"}, {[]api.Tok{c(-7)}, "-7"}, {[]api.Tok{c(math.MinInt32)}, "-2147483648"}, {[]api.Tok{c(math.MaxInt32)}, "2147483647"}, {[]api.Tok{r(3)}, "r3"},
		{[]api.Tok{r(1), c(1), o(api.Add)}, "r1 1 +"}, {[]api.Tok{r(1), c(-1), o(api.Sub)}, "r1 -1 -"}, {[]api.Tok{r(1), r(2), o(api.Mul), c(3), o(api.Xor)}, "r1 r2 * 3 ^"}, {[]api.Tok{c(1), c(2), c(3), o(api.Eq), o(api.Lt)}, "1 2 3 = <"},
	} {
		if expr.Text(x.e) != x.s {
			t.Error(x, expr.Text(x.e))
		}
		if e, ok := expr.Parse(x.s); !ok || !slices.Equal(e, x.e) {
			t.Error(x, e, ok)
		}
	}
	for _, e := range [][]api.Tok{nil, {c(1), c(2)}, {r(8)}, {o(1)}, repeat(10, c(1))} {
		if expr.Text(e) != "" {
			t.Error(e)
		}
	}
	for _, s := range []string{"", " ", "1 ", " 1", "1  2 +", "1\t2 +", "01", "-0", "+1", "--1", "- 1", "1 2", "1 +", "+", "r", "r8", "r-1", "r01", "r+1", "r 1", "R1", "2147483648", "-2147483649", "99999999999999999999", "1 2 +\n", "1 2 /", "0x1", "1_0", "1e1", "é", "1 1 + 1 + 1 + 1 + 1 +", strings.Repeat("1 ", 10000), "r1 1 +x", "1 2 ++"} {
		if e, ok := expr.Parse(s); ok || len(e) != 0 {
			t.Errorf("%q: %v", s, e)
		}
	}
}

// P2.2
func TestEval(t *testing.T) {
	for _, x := range []struct {
		s    string
		regs []int
		v    int
	}{
		{"r1 1 +", []int{0, 5}, 6}, {"r1 1 +", []int{9}, 1}, {"r1", nil, 0}, {"7 3 -", nil, 4}, {"3 7 -", nil, -4}, {"3 7 *", nil, 21}, {"6 3 ^", nil, 5}, {"-1 3 ^", nil, -4}, {"3 3 =", nil, 1}, {"3 4 =", nil, 0}, {"3 4 <", nil, 1}, {"4 3 <", nil, 0}, {"3 3 <", nil, 0}, {"-1 0 <", nil, 1},
		{"10 2 3 - -", nil, 11}, {"10 2 - 3 -", nil, 5}, {"r0 1 +", []int{math.MaxInt64}, math.MinInt64}, {"r0 1 -", []int{math.MinInt64}, math.MaxInt64}, {"r0 r0 *", []int{1 << 32}, 0}, {"r7", []int{0, 1, 2, 3, 4, 5, 6, 7, 8}, 7}, {"0 r0 -", []int{math.MinInt64}, math.MinInt64}, {"r0 0 <", []int{math.MinInt64}, 1},
	} {
		e, ok := expr.Parse(x.s)
		if got := expr.Eval(e, x.regs); !ok || got != x.v {
			t.Error(x, got)
		}
	}
	for _, e := range [][]api.Tok{nil, {c(1), c(2)}, {o(1)}, {c(1 << 40)}, {r(-1)}, {r(8)}} {
		if expr.Eval(e, []int{1, 2, 3, 4, 5, 6, 7, 8, 9}) != 0 {
			t.Error(e)
		}
	}
}

// P2.2
func TestRegs(t *testing.T) {
	for _, x := range []struct {
		e []api.Tok
		l []int
	}{
		{nil, nil}, {[]api.Tok{c(1)}, nil}, {[]api.Tok{r(3), r(1), o(1), r(3), o(1)}, []int{1, 3}}, {[]api.Tok{r(100), o(9), r(-4), {Kind: 7, V: 2}}, []int{-4, 100}},
	} {
		e := slices.Clone(x.e)
		if !slices.Equal(expr.Regs(x.e), x.l) || !slices.Equal(e, x.e) {
			t.Error(x, expr.Regs(x.e))
		}
	}
}

// P2.3
func TestTextIsRead(t *testing.T) {
	rnd := rand.New(rand.NewSource(1))
	good := 0
	for range 20000 {
		var e []api.Tok
		for range rnd.Intn(6) {
			switch rnd.Intn(3) {
			case 0:
				e = append(e, c(int(int32(rnd.Uint32()))>>rnd.Intn(32)))
			case 1:
				e = append(e, r(rnd.Intn(8)))
			default:
				e = append(e, o(1+rnd.Intn(6)))
			}
		}
		back, ok := expr.Parse(expr.Text(e))
		if ok != expr.Check(e) || ok && !slices.Equal(back, e) {
			t.Error(e, back, ok)
		}
		if ok {
			good++
		}
	}
	if good < 1000 {
		t.Error("too few that may be", good)
	}
}
