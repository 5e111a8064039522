package thing

import (
	"affidavit/api"
	"affidavit/rule"
)

// pair is a variable and the name that it stands for.
type pair struct {
	variable rule.Variable
	name     string
}

// Binding tells which names some variables stand for. It has room for all the
// variables of a rule, as each of them is in a positive literal. It is an array,
// so that one match can go on from it in many ways and none disturbs another.
type Binding struct {
	count int
	pairs [api.MaxBody * api.MaxTerms]pair
}

func (b *Binding) name(v rule.Variable) (string, bool) {
	for i := range b.count {
		if b.pairs[i].variable == v {
			return b.pairs[i].name, true
		}
	}
	return "", false
}

// bind lets a variable stand for a name, or tells that it stands for another.
func (b *Binding) bind(v rule.Variable, name string) bool {
	if bound, known := b.name(v); known {
		return bound == name
	}
	b.pairs[b.count] = pair{variable: v, name: name}
	b.count++
	return true
}

// Match tells what the variables are if an atom is to be a thing; or that it
// can't be. An atom and a thing of one predicate have equally many terms.
func (b Binding) Match(a rule.Atom, t Thing) (Binding, bool) {
	if a.Predicate != t[0] {
		return Binding{}, false
	}
	for i, term := range a.Terms {
		if !b.matchTerm(term, t[1+i]) {
			return Binding{}, false
		}
	}
	return b, true
}

func (b *Binding) matchTerm(t rule.Term, name string) bool {
	switch t := t.(type) {
	case rule.Name:
		return string(t) == name
	case rule.Variable:
		return b.bind(t, name)
	}
	return false
}

// Fill tells which thing an atom is whose variables are all bound.
func (b Binding) Fill(a rule.Atom) Thing {
	filled := Thing{a.Predicate}
	for i, t := range a.Terms {
		switch t := t.(type) {
		case rule.Name:
			filled[1+i] = string(t)
		case rule.Variable:
			filled[1+i], _ = b.name(t)
		}
	}
	return filled
}
