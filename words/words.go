// Package words: what the texts of programs, of POWER's and of certificates have in common.
package words

import (
	"slices"
	"strconv"
	"strings"

	"exegesis/api"
)

// Most is how many words a line of such a text may have: no instruction has as many.
const Most = 20

const (
	modes = "rlx acq rel acqrel sc"
	locs  = "x y z w"
)

// Cut is the words of a line, with one blank between; none, if they are too many.
func Cut(s string) []string {
	var l []string
	from, i := 0, 0
line:
	for {
		if len(l) == Most {
			return nil
		}
		for {
			if i == len(s) {
				l = append(l, s[from:])
				break line
			}
			if s[i] == ' ' {
				break
			}
			i++
		}
		l = append(l, s[from:i])
		i++
		from = i
	}
	return l
}

// one is the word of a number among words with a blank between; a word that is none, if there is none.
func one(list string, v int) string {
	if l := strings.Split(list, " "); 0 <= v && v < len(l) {
		return l[v]
	}
	return "?"
}

func number(list, w string) (int, bool) {
	v := slices.Index(strings.Split(list, " "), w)
	return max(v, 0), v >= 0
}

// Mode is a mode's word.
func Mode(m int) string { return one(modes, m) }

// ParseMode is the mode of a word.
func ParseMode(w string) (int, bool) { return number(modes, w) }

// Loc is a location's word.
func Loc(l int) string { return one(locs, l) }

// ParseLoc is the location of a word.
func ParseLoc(w string) (int, bool) { return number(locs, w) }

// Reg is a register's word.
func Reg(r int) string { return "r" + strconv.Itoa(r) }

// ParseReg is the register of a word.
func ParseReg(w string) (int, bool) {
	rest, ok := strings.CutPrefix(w, "r")
	if !ok {
		return 0, false
	}
	return ParseNumber(rest, api.MaxRegs-1)
}

// ParseNumber is the number from 0 to most that is written so.
func ParseNumber(w string, most int) (int, bool) {
	v, err := strconv.Atoi(w)
	if err != nil || v < 0 || v > most || strconv.Itoa(v) != w {
		return 0, false
	}
	return v, true
}

// Lines is each line of a text: lines end at the byte 10, and what stands behind the last one is a line, if it has a byte.
func Lines(s string) func(yield func(string) bool) {
	return func(yield func(string) bool) {
		for s != "" {
			line, rest, _ := strings.Cut(s, "\n")
			if !yield(line) {
				return
			}
			s = rest
		}
	}
}

// Program is what a text of threads says, if instruction reads its lines; else the line that is none.
func Program[I any](s string, instruction func(string) (I, bool)) (locs int, threads [][]I, line int, e api.Errno) {
	if len(s) > api.MaxText {
		return 0, nil, 0, api.ErrBig
	}
	for l := range Lines(s) {
		line++
		if l == "" || l[0] == '#' {
			continue
		}
		if l == "thread" {
			threads = append(threads, nil)
			continue
		}
		if n, ok := strings.CutPrefix(l, "locs "); ok {
			v, ok := ParseNumber(n, api.MaxLocs)
			if !ok || v == 0 || locs != 0 || len(threads) != 0 {
				return 0, nil, line, api.ErrText
			}
			locs = v
			continue
		}
		i, ok := instruction(l)
		if !ok || len(threads) == 0 {
			return 0, nil, line, api.ErrText
		}
		last := len(threads) - 1
		threads[last] = append(threads[last], i)
	}
	if locs == 0 {
		return 0, nil, line + 1, api.ErrText
	}
	return locs, threads, 0, api.OK
}

// Text is the text of threads, if line says their instructions; empty, if none is read as them.
func Text[I any](locs int, threads [][]I, line func(I) string) string {
	if locs < 1 || locs > api.MaxLocs {
		return ""
	}
	s := []byte("locs " + strconv.Itoa(locs) + "\n")
	for _, t := range threads {
		s = append(s, "thread\n"...)
		for _, i := range t {
			l := line(i)
			if l == "" || len(s) > api.MaxText {
				return ""
			}
			s = append(s, l+"\n"...)
		}
		if len(s) > api.MaxText {
			return ""
		}
	}
	return string(s)
}
