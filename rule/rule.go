// Package rule: what a text is made of, and how it is written.
package rule

// Term is a Name or a Variable; there are no other kinds.
type Term interface {
	term()
}

// Name is a term that stands for itself.
type Name string

// Variable is a term that stands for any name, for the same one in a whole rule.
type Variable string

func (Name) term()     {}
func (Variable) term() {}

// Atom is a predicate and its terms, which may be none.
type Atom struct {
	Predicate string
	Terms     []Term
}

// Literal is an atom of a body, or an atom that is said not to be so.
type Literal struct {
	Negative bool
	Atom     Atom
}

// Rule is a head and a body, which may be empty.
type Rule struct {
	Head Atom
	Body []Literal
}

// Positive has the atoms of the positive literals.
func (r Rule) Positive() []Atom { return r.atoms(false) }

// Negative has the atoms of the negative literals.
func (r Rule) Negative() []Atom { return r.atoms(true) }

func (r Rule) atoms(negative bool) []Atom {
	var atoms []Atom
	for _, l := range r.Body {
		if l.Negative == negative {
			atoms = append(atoms, l.Atom)
		}
	}
	return atoms
}

// Binds tells whether a variable stands in a positive literal of the rule.
func (r Rule) Binds(v Variable) bool {
	for _, a := range r.Positive() {
		if a.has(v) {
			return true
		}
	}
	return false
}

func (a Atom) has(v Variable) bool {
	for _, t := range a.Terms {
		switch t := t.(type) {
		case Variable:
			if t == v {
				return true
			}
		case Name:
		}
	}
	return false
}
