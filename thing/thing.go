// Package thing: atoms without variables, and how atoms with variables match them.
package thing

import (
	"affidavit/api"
	"affidavit/rule"
)

// Thing is a predicate and behind it the names of its terms; what is behind the
// last term is empty, which no name is. So two things are the same if they are
// equal, and a thing can be the key of a map.
type Thing [1 + api.MaxTerms]string

// Of has the thing that an atom is; or tells that there is a variable in it.
func Of(a rule.Atom) (Thing, bool) {
	t := Thing{a.Predicate}
	for i, term := range a.Terms {
		switch term := term.(type) {
		case rule.Name:
			t[1+i] = string(term)
		case rule.Variable:
			return Thing{}, false
		}
	}
	return t, true
}

// Text writes a thing as its atom is written in a text.
func (t Thing) Text() string {
	a := rule.Atom{Predicate: t[0]}
	for _, name := range t[1:] {
		if name != "" {
			a.Terms = append(a.Terms, rule.Name(name))
		}
	}
	return a.Text()
}
