package drive

import (
	"slices"

	"exegesis/api"
	"exegesis/fresh"
	"exegesis/lang"
	"exegesis/rules"
	"exegesis/valid"
)

// Optimise is a program that does no more than one, and why. It takes steps that leave less to do, as long as there are any, and in the end leaves out what no event hangs on.
func Optimise(p api.Prog) (api.Prog, []api.Step) {
	q := fresh.Prog(p)
	if valid.Match(q, q) != api.OK {
		return q, nil
	}
	var l []api.Step
	for len(l) < api.MaxSteps {
		next, s, ok := better(q)
		if !ok {
			break
		}
		q = next
		l = append(l, s)
	}
	return tidied(q), l
}

// better is a program with a step taken; false, if there is none to be taken.
func better(p api.Prog) (api.Prog, api.Step, bool) {
	for t, l := range p.Threads {
		for at := range l {
			for _, rule := range [...]int{api.Fold, api.DropWrite, api.Merge, api.ReadRead, api.ReadWrite} {
				s := api.Step{Rule: rule, Thread: t, At: at}
				if !rules.Can(p, s) {
					continue
				}
				q, e := rules.Apply(p, s)
				// What was read may have been a small term where what was written is a great one.
				if e == api.OK && !longer(q, p) && valid.Match(q, q) == api.OK {
					return q, s, true
				}
			}
		}
	}
	return api.Prog{}, api.Step{}, false
}

// longer tells whether a program is longer than another one, as a text.
func longer(q, p api.Prog) bool { return len(lang.Text(q)) > len(lang.Text(p)) }

// tidied is a program without those Sets whose lack no summary shows.
func tidied(p api.Prog) api.Prog {
	q := p
	for t := range p.Threads {
		for at := len(p.Threads[t]) - 1; at >= 0; at-- {
			if p.Threads[t][at].Kind != api.Set {
				continue
			}
			less := without(q, t, at)
			if valid.Match(p, less) == api.OK {
				q = less
			}
		}
	}
	return q
}

// without is a program without an instruction; Skips over it are shorter.
func without(p api.Prog, thread, at int) api.Prog {
	q := fresh.Prog(p)
	l := q.Threads[thread]
	for j := range at {
		if l[j].Kind == api.Skip && j+1+l[j].N > at {
			l[j].N--
		}
	}
	q.Threads[thread] = slices.Delete(l, at, at+1)
	return q
}
