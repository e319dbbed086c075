package sheet_test

import (
	"strings"
	"testing"

	"exegesis/api"
	"exegesis/sheet"
)

func run(t *testing.T, s string) string {
	t.Helper()
	said, e := sheet.Run(s)
	if e != api.OK {
		t.Fatal(s, e)
	}
	return said
}

const (
	mp   = "locs_3;thread;store_x_rlx_1;store_y_rlx_1;thread;r1_=_load_y_rlx;r2_=_load_x_rlx;store_z_rlx_r1_r2_<"
	one  = "locs_2;thread;store_x_rlx_1;store_y_rlx_2"
	turn = "locs_2;thread;store_y_rlx_2;store_x_rlx_1"
	none = "locs_1"
	six  = "locs_1;thread;thread;thread;thread;thread;thread"
	fat  = "locs_1;thread;r1_=_load_x_rlx;r1_=_r1_r1_*;r1_=_r1_r1_*;r1_=_r1_r1_*;r1_=_r1_r1_*;r1_=_r1_r1_*"
	many = "locs_1;thread;store_x_rlx_1;store_x_rlx_1;store_x_rlx_1;store_x_rlx_1;store_x_rlx_1;store_x_rlx_1;store_x_rlx_1;store_x_rlx_1"
)

// P28.1, P28.2
func TestLines(t *testing.T) {
	for _, x := range []struct{ s, want string }{
		{"", ""}, {"\n\n", ""}, {"   \n# check\n#check\n  # p\n #\n", ""}, {"check", "error 1\n"}, {"check\n", "error 1\n"}, {"  check  \n", "error 1\n"},
		{"what", "error 9\n"}, {"check q", "error 9\n"}, {"Check", "error 9\n"}, {"check\t", "error 9\n"}, {"\tcheck", "error 9\n"}, {"check\r\n", "error 9\n"}, {"é", "error 9\n"}, {"\x00\xff", "error 9\n"}, {"p", "error 9\n"}, {"q", "error 9\n"}, {"p a b", "error 9\n"}, {"q a b", "error 9\n"}, {"cert a b", "error 9\n"}, {"imm p", "error 9\n"}, {"imm q q", "error 9\n"}, {"power x", "error 9\n"}, {"code p", "error 9\n"}, {"opt q", "error 9\n"}, {"opt p", "error 9\n"}, {"pq", "error 9\n"}, {"ok", "error 9\n"}, {"; ; ;", "error 9\n"},
		{"imm\nimm q\npower\npower q\ncode\ncode q\nopt", strings.Repeat("error 1\n", 7)}, {"p " + one + "\nimm q\npower q\ncode q\ncheck", "ok\n" + strings.Repeat("error 1\n", 4)}, {"q " + one + "\nimm\npower\ncode\nopt\ncheck", "ok\n" + strings.Repeat("error 1\n", 5)},
		{"p x", "error 2\n"}, {"p ;", "error 2\n"}, {"p " + strings.Repeat(";", 4001), "error 4\n"}, {"q x", "error 2\n"}, {"p " + one + "\np x\ncode", "ok\nerror 2\nlocs 2\nthread\nst x 1\nst y 2\n"}, {"p locs_1;#_;;thread;\ncode", "ok\nlocs 1\nthread\n"}, {"p locs_1_\np locs__1\np _locs_1\np locs_1;_thread", strings.Repeat("error 2\n", 4)},
		{"cert", "ok\n"}, {"cert swap_0_0_rlx", "ok\n"}, {"cert swap_0_0_rlx;", "error 2\n"}, {"cert swap", "error 2\n"}, {"cert ;", "error 2\n"}, {"cert " + strings.Repeat("swap_0_0_rlx;", 20) + "swap_0_0_rlx", "error 2\n"},
		{"p " + one + "\nq " + turn + "\ncheck\ncert swap_0_0_rlx\ncheck\ncert swap\ncheck\ncert swap_0_0_rlx;swap_0_5_rlx\ncheck\ncert\ncheck", "ok\nok\nerror 8 0\nok\nok\nerror 2\nok\nok\nerror 7 1\nok\nerror 8 0\n"},
		{"p " + one + "\nq " + one + "\ncheck\nq " + none + "\ncheck\np " + six + "\ncheck\np " + fat + "\nq " + fat + "\ncheck", "ok\nok\nok\nok\nerror 3 0\nok\nerror 4 0\nok\nok\nerror 4 0\n"},
		{"p " + one + "\nimm\npower", "ok\n1 2\n1 2\n"}, {"q " + one + "\nimm q\npower q\ncode q", "ok\n1 2\n1 2\nlocs 2\nthread\nst x 1\nst y 2\n"},
		{"p " + mp + "\nimm\npower", "ok\n1 1 0\n1 1 1\n1 1 0\n1 1 1\n"}, {"p locs_1;thread;store_x_rlx_5;r1_=_load_x_rlx\nimm\npower", "ok\nnone\nnone\n"}, {"p locs_1;thread;store_x_rlx_-5;r1_=_load_x_rlx;store_x_rlx_r1\nimm", "ok\nnone\n"}, {"p locs_1;thread;store_x_rlx_-5\nimm", "ok\n-5\n"}, {"p locs_1;thread;store_x_rlx_2;r1_=_load_x_rlx;store_x_rlx_r1_2_*\nimm", "ok\n4\n"},
		{"p " + none + "\nimm\npower\ncode\nopt", "ok\n" + strings.Repeat("error 3\n", 4)}, {"p " + six + "\nimm\npower\ncode\nopt", "ok\nerror 3\nerror 4\nerror 4\nerror 4\n"}, {"p " + many + "\nimm\npower", "ok\nerror 4\nerror 4\n"}, {"p " + fat + "\nimm\nopt", "ok\n0\nerror 4\n"},
		{"p locs_1;thread;store_x_rlx_1;store_x_rlx_1_1_+\nopt\ncode", "ok\nlocs 1\nthread\nstore x rlx 2\nlocs 1\nthread\nst x 1\nst x 1 1 +\n"}, {"p " + one + "\nimm\np " + turn + "\ncode\nimm", "ok\n1 2\nok\nlocs 2\nthread\nst y 2\nst x 1\n1 2\n"},
	} {
		if said := run(t, x.s); said != x.want {
			t.Errorf("%q: %q, not %q", x.s, said, x.want)
		}
	}
}

// P28.1
func TestSheetTooBig(t *testing.T) {
	if said, e := sheet.Run("check\n#" + strings.Repeat("x", api.MaxSheet-7)); said != "error 1\n" || e != api.OK {
		t.Error("MaxSheet bytes", said, e)
	}
	if said, e := sheet.Run("check\n#" + strings.Repeat("x", api.MaxSheet-6)); said != "" || e != api.ErrBig {
		t.Error("more", said, e)
	}
}

// P28.3
func TestMuch(t *testing.T) {
	l := "locs_1;thread" + strings.Repeat(";r1_=_-2147483648_-2147483648_+_-2147483648_+", 12)
	code := strings.NewReplacer(";r1_=_", "\nmov r1 ", ";", "\n", "_", " ").Replace(l) + "\n"
	s := "p " + l + "\n"
	lines := 0
	for len(s)+len("code\n") < api.MaxSheet-10 {
		s += "code\n"
		lines++
	}
	if lines*len(code) < 1<<20 {
		t.Fatal("not much", lines*len(code))
	}
	said := run(t, s+"check\n")
	n := (1<<20 - 3) / len(code)
	if said != "ok\n"+strings.Repeat(code, n) {
		t.Error(len(said), n*len(code))
	}
	// Just so much, to the byte: lines of 3 and of 8 bytes fill it up.
	left := 1<<20 - 3 - n*len(code)
	s = "p " + l + "\n" + strings.Repeat("code\n", n)
	for ; left%3 != 0; left -= 8 {
		s += "what\n"
	}
	s += strings.Repeat("cert\n", left/3)
	if said := run(t, s+"cert\n"); left < 0 || len(said) != 1<<20 || said != run(t, s) {
		t.Error("to the byte", left, len(said))
	}
	if said := run(t, strings.Replace(s, "cert\n", "", 1)+"what\ncert\n"); len(said) != 1<<20-3 {
		t.Error("what would be too much ends it", len(said))
	}
	// A sheet cut behind a line says the beginning of what the whole says.
	cut := ""
	for _, line := range strings.SplitAfter("p "+mp+"\nimm\nwhat\nq "+one+"\n\ncheck\ncode q\ncert x\nopt\npower", "\n") {
		before := run(t, cut)
		cut += line
		if !strings.HasPrefix(run(t, cut), before) {
			t.Error(line)
		}
	}
}
