package term

import "exegesis/api"

// node is a term whose parts are known by their numbers.
type node struct{ kind, v, l, r int }

// table numbers terms: those that are alike have one number, and parts have lower ones. Terms may share parts, so that what is written of them grows far above what there is of them; each part is looked at once.
type table struct {
	nodes  []node
	number map[node]int
	ids    map[*Term]int
	loops  bool // a term is a part of itself
}

// opened stands for the number of a term whose parts have none yet.
const opened = -1

func newTable() *table {
	t := &table{number: map[node]int{}, ids: map[*Term]int{}}
	t.ids[nil] = t.put(node{kind: api.Const})
	return t
}

func (t *table) put(n node) int {
	id, ok := t.number[n]
	if !ok {
		id = len(t.nodes)
		t.nodes = append(t.nodes, n)
		t.number[n] = id
	}
	return id
}

// id is a term's number.
func (t *table) id(root *Term) int {
	for pile := []*Term{root}; len(pile) > 0; {
		top := pile[len(pile)-1]
		id, seen := t.ids[top]
		switch {
		case seen && id != opened:
			pile = pile[:len(pile)-1]
		case top.Kind != api.Op:
			t.ids[top] = t.put(node{kind: top.Kind, v: top.V})
		case !seen:
			t.ids[top] = opened
			pile = t.add(t.add(pile, top.R), top.L)
		default:
			t.ids[top] = t.put(node{top.Kind, top.V, t.part(top.L), t.part(top.R)})
		}
	}
	return t.ids[root]
}

// add puts a term on a pile, if it has no number.
func (t *table) add(pile []*Term, x *Term) []*Term {
	if id, seen := t.ids[x]; seen {
		t.loops = t.loops || id == opened
		return pile
	}
	return append(pile, x)
}

// part is the number of a part; of a term that is a part of itself that of 0.
func (t *table) part(x *Term) int { return max(t.ids[x], 0) }

// patience is how many steps two texts are held against each other till their terms are numbered.
const patience = 200

// ahead tells whether the Text of a is ahead of that of b, by bytes. What both have in common is not written down.
func ahead(a, b *Term) bool {
	var known *table
	p, q := pieces{piece{term: a}}, pieces{piece{term: b}}
	for steps := 0; len(p) > 0 && len(q) > 0; steps++ {
		if steps == patience {
			known = newTable()
			if known.id(a) == known.id(b) || known.loops {
				return false
			}
		}
		x, y := &p[len(p)-1], &q[len(q)-1]
		switch {
		case x.term != nil && y.term != nil && known.alike(x.term, y.term):
			p, q = p[:len(p)-1], q[:len(q)-1]
		case x.term != nil:
			p = p[:len(p)-1].open(x.term)
		case y.term != nil:
			q = q[:len(q)-1].open(y.term)
		default:
			n := min(len(x.text), len(y.text))
			if x.text[:n] != y.text[:n] {
				return x.text < y.text
			}
			p, q = p.cut(n), q.cut(n)
		}
	}
	return len(p) == 0 && len(q) > 0
}

// alike tells whether terms are known to be alike.
func (t *table) alike(a, b *Term) bool {
	return a == b || t != nil && t.id(a) == t.id(b)
}

// cut takes some bytes off the next piece.
func (p pieces) cut(n int) pieces {
	top := len(p) - 1
	p[top].text = p[top].text[n:]
	if p[top].text == "" {
		return p[:top]
	}
	return p
}
