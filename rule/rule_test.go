package rule

import "testing"

func atom(predicate string, terms ...Term) Atom { return Atom{Predicate: predicate, Terms: terms} }

func TestBinds(t *testing.T) {
	r := Rule{
		Head: atom("p", Variable("X"), Variable("Y")),
		Body: []Literal{
			{Atom: atom("q", Name("a"), Variable("X"))},
			{Negative: true, Atom: atom("r", Variable("Y"))},
		},
	}
	if !r.Binds("X") {
		t.Error("X is in a positive literal")
	}
	if r.Binds("Y") {
		t.Error("Y is in no positive literal")
	}
	r.Body[0].Atom.Terms[1] = Name("X")
	if r.Binds("X") {
		t.Error("a name was taken for a variable")
	}
}

func TestWrite(t *testing.T) {
	rules := []Rule{
		{Head: atom("p")},
		{Head: atom("p2", Name("a"), Name("b"))},
		{Head: atom("q", Variable("X")), Body: []Literal{
			{Atom: atom("p2", Variable("X"), Name("1"))},
			{Negative: true, Atom: atom("r", Variable("X"))},
			{Negative: true, Atom: atom("p")},
		}},
	}
	want := "p.\np2(a,b).\nq(X) :- p2(X,1), not r(X), not p.\n"
	if s := Write(rules); s != want {
		t.Errorf("Write = %q, want %q", s, want)
	}
	if s := Write(nil); s != "" {
		t.Errorf("Write of no rules = %q", s)
	}
}
