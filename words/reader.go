package words

import (
	"strings"

	"exegesis/api"
	"exegesis/expr"
)

// Reader takes the words of a line one by one, and keeps in mind whether all were what they had to be.
type Reader struct {
	words []string
	bad   bool
}

// NewReader reads the words of a line.
func NewReader(s string) *Reader {
	l := Cut(s)
	return &Reader{words: l, bad: l == nil}
}

// Skip goes over a word, if it is the next one, and tells whether it was.
func (r *Reader) Skip(w string) bool {
	if len(r.words) == 0 || r.words[0] != w {
		return false
	}
	r.words = r.words[1:]
	return true
}

// Must goes over a word that has to be the next one.
func (r *Reader) Must(w string) {
	if !r.Skip(w) {
		r.bad = true
	}
}

// Take is what the next word says.
func (r *Reader) Take(parse func(string) (int, bool)) int {
	if len(r.words) == 0 {
		r.bad = true
		return 0
	}
	v, ok := parse(r.words[0])
	r.words = r.words[1:]
	r.bad = r.bad || !ok
	return v
}

// Rest is the expression of all words that are left.
func (r *Reader) Rest() []api.Tok {
	e, ok := expr.Parse(strings.Join(r.words, " "))
	r.words = nil
	r.bad = r.bad || !ok
	return e
}

// Done tells whether all words were what they had to be, and none is left.
func (r *Reader) Done() bool { return !r.bad && len(r.words) == 0 }
