// Package sound: what a text may be refused for, although it can be read.
package sound

import (
	"affidavit/api"
	"affidavit/read"
	"affidavit/rule"
	"affidavit/strata"
)

// Fault tells the error of a text and its place; OK and 0, if it has none.
func Fault(text read.Text) (api.Errno, int) {
	if place, found := arity(text); found {
		return api.ErrArity, place
	}
	if place, found := unbound(text); found {
		return api.ErrUnsafe, place
	}
	if place, found := cycle(text); found {
		return api.ErrCycle, place
	}
	return api.OK, 0
}

func arity(text read.Text) (int, bool) {
	terms := map[string]int{}
	for _, m := range text.Mentions {
		n, known := terms[m.Atom.Predicate]
		if known && n != len(m.Atom.Terms) {
			return m.Place, true
		}
		terms[m.Atom.Predicate] = len(m.Atom.Terms)
	}
	return 0, false
}

func unbound(text read.Text) (int, bool) {
	for _, m := range text.Mentions {
		if i, found := firstLoose(m.Atom, text.Rules[m.Rule]); found {
			return m.Terms[i], true
		}
	}
	return 0, false
}

// firstLoose tells which term of an atom is the first variable that its rule
// does not bind. A positive literal has none, as it binds its own.
func firstLoose(a rule.Atom, r rule.Rule) (int, bool) {
	for i, t := range a.Terms {
		switch t := t.(type) {
		case rule.Variable:
			if !r.Binds(t) {
				return i, true
			}
		case rule.Name:
		}
	}
	return 0, false
}

func cycle(text read.Text) (int, bool) {
	links := strata.LinksOf(text.Rules)
	for _, m := range text.Mentions {
		head := text.Rules[m.Rule].Head.Predicate
		denied := m.Atom.Predicate
		if m.Negative && (denied == head || links.Hangs(denied, head)) {
			return m.Start, true
		}
	}
	return 0, false
}
