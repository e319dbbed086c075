package words_test

import (
	"slices"
	"strings"
	"testing"

	"exegesis/api"
	"exegesis/words"
)

func TestCut(t *testing.T) {
	for _, x := range []struct {
		s    string
		want []string
	}{{"", []string{""}}, {" ", []string{"", ""}}, {"a", []string{"a"}}, {"a b", []string{"a", "b"}}, {"a  b ", []string{"a", "", "b", ""}}, {strings.Repeat("a ", words.Most-1) + "a", slices.Repeat([]string{"a"}, words.Most)}, {strings.Repeat("a ", words.Most) + "a", nil}} {
		if l := words.Cut(x.s); !slices.Equal(l, x.want) {
			t.Errorf("%q: %q", x.s, l)
		}
	}
}

func TestLines(t *testing.T) {
	for _, x := range []struct {
		s    string
		want []string
	}{{"", nil}, {"\n", []string{""}}, {"a", []string{"a"}}, {"a\n", []string{"a"}}, {"a\n\nb", []string{"a", "", "b"}}, {"\r\n", []string{"\r"}}} {
		var l []string
		for line := range words.Lines(x.s) {
			l = append(l, line)
		}
		if !slices.Equal(l, x.want) {
			t.Errorf("%q: %q", x.s, l)
		}
	}
	for line := range words.Lines("a\nb") {
		if line != "a" {
			t.Error(line)
		}
		break
	}
}

func TestWords(t *testing.T) {
	for v := -1; v < 9; v++ {
		if m, ok := words.ParseMode(words.Mode(v)); ok != (v >= 0 && v <= api.SC) || ok && m != v {
			t.Error("mode", v)
		}
		if l, ok := words.ParseLoc(words.Loc(v)); ok != (v >= 0 && v < api.MaxLocs) || ok && l != v {
			t.Error("location", v)
		}
		if r, ok := words.ParseReg(words.Reg(v)); ok != (v >= 0 && v < api.MaxRegs) || ok && r != v {
			t.Error("register", v)
		}
		if n, ok := words.ParseNumber(strings.TrimPrefix(words.Reg(v), "r"), 5); ok != (v >= 0 && v <= 5) || ok && n != v {
			t.Error("number", v)
		}
	}
}
