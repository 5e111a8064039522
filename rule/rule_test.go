package rule

import (
	"reflect"
	"testing"
)

func atom(predicate string, terms ...Term) Atom { return Atom{Predicate: predicate, Terms: terms} }

func TestBinds(t *testing.T) {
	r := Rule{
		Head: atom("p", Variable("X"), Variable("Y")),
		Body: []Literal{
			{Atom: atom("q", Name("a"), Variable("X"))},
			{Negative: true, Atom: atom("r", Variable("Y"))},
		},
	}
	if !r.Binds("X") {
		t.Error("X is in a positive literal")
	}
	if r.Binds("Y") {
		t.Error("Y is in no positive literal")
	}
	r.Body[0].Atom.Terms[1] = Name("X")
	if r.Binds("X") {
		t.Error("a name was taken for a variable")
	}
}

func TestWrite(t *testing.T) {
	rules := []Rule{
		{Head: atom("p")},
		{Head: atom("p2", Name("a"), Name("b"))},
		{Head: atom("q", Variable("X")), Body: []Literal{
			{Atom: atom("p2", Variable("X"), Name("1"))},
			{Negative: true, Atom: atom("r", Variable("X"))},
			{Negative: true, Atom: atom("p")},
		}},
	}
	want := "p.\np2(a,b).\nq(X) :- p2(X,1), not r(X), not p.\n"
	if s := Write(rules); s != want {
		t.Errorf("Write = %q, want %q", s, want)
	}
	if s := Write(nil); s != "" {
		t.Errorf("Write of no rules = %q", s)
	}
}

func TestPositiveAndNegative(t *testing.T) {
	p, q, r := atom("p", Variable("X")), atom("q"), atom("r", Name("a"))
	body := []Literal{{Negative: true, Atom: q}, {Atom: p}, {Atom: r}}
	if got := (Rule{Body: body}).Positive(); !reflect.DeepEqual(got, []Atom{p, r}) {
		t.Errorf("Positive = %v", got)
	}
	if got := (Rule{Body: body}).Negative(); !reflect.DeepEqual(got, []Atom{q}) {
		t.Errorf("Negative = %v", got)
	}
	if r := (Rule{Head: p}); len(r.Positive())+len(r.Negative()) != 0 {
		t.Error("a fact has literals")
	}
}

func TestText(t *testing.T) {
	if s := atom("p2", Name("a"), Variable("X"), Name("1")).Text(); s != "p2(a,X,1)" {
		t.Errorf("Text = %q", s)
	}
	if s := atom("p").Text(); s != "p" {
		t.Errorf("Text = %q", s)
	}
}
