package read

import (
	"reflect"
	"testing"

	"affidavit/api"
	"affidavit/rule"
)

func TestScan(t *testing.T) {
	for _, c := range []struct {
		text string
		want token
	}{
		{"", token{end, 0, 0}},
		{" \n ", token{end, 3, 3}},
		{" abcdefgh(", token{name, 1, 9}},
		{"abcdefghi(", token{wrong, 0, 9}},
		{"09az", token{name, 0, 4}},
		{"ABCDEFGHa", token{variable, 0, 8}},
		{"ABCDEFGHI", token{wrong, 0, 9}},
		{"\nnot p", token{not, 1, 4}},
		{"not1", token{name, 0, 4}},
		{"notX", token{not, 0, 3}},
		{"no", token{name, 0, 2}},
		{"(", token{open, 0, 1}},
		{")", token{shut, 0, 1}},
		{",", token{comma, 0, 1}},
		{".", token{stop, 0, 1}},
		{":-", token{when, 0, 2}},
		{":", token{wrong, 0, 1}},
		{": -", token{wrong, 0, 1}},
		{"-", token{wrong, 0, 1}},
		{"\tp", token{wrong, 0, 1}},
		{"\r\n", token{wrong, 0, 1}},
		{"\x00", token{wrong, 0, 1}},
		{"é", token{wrong, 0, 1}},
		{"_", token{wrong, 0, 1}},
	} {
		if got := scan(c.text, 0); got != c.want {
			t.Errorf("scan(%q) = %v, want %v", c.text, got, c.want)
		}
	}
}

func TestRules(t *testing.T) {
	got, place, ok := Rules("p(a). q(X) :-\n not r, p(X).")
	p := rule.Atom{Predicate: "p", Terms: []rule.Term{rule.Name("a")}}
	q := rule.Atom{Predicate: "q", Terms: []rule.Term{rule.Variable("X")}}
	r := rule.Atom{Predicate: "r"}
	px := rule.Atom{Predicate: "p", Terms: []rule.Term{rule.Variable("X")}}
	want := Text{
		Rules: []rule.Rule{
			{Head: p},
			{Head: q, Body: []rule.Literal{{Negative: true, Atom: r}, {Atom: px}}},
		},
		Mentions: []Mention{
			{Rule: 0, Atom: p, Start: 0, Place: 0, Terms: [api.MaxTerms]int{2}},
			{Rule: 1, Atom: q, Start: 6, Place: 6, Terms: [api.MaxTerms]int{8}},
			{Rule: 1, Atom: r, Negative: true, Start: 15, Place: 19},
			{Rule: 1, Atom: px, Start: 22, Place: 22, Terms: [api.MaxTerms]int{24}},
		},
	}
	if !ok || place != 0 || !reflect.DeepEqual(got, want) {
		t.Errorf("Rules = %+v, %d, %v, want %+v", got, place, ok, want)
	}
}

func TestRulesFault(t *testing.T) {
	got, place, ok := Rules("p(a). q(X) :- not.")
	if ok || place != 17 || got.Rules != nil || got.Mentions != nil {
		t.Errorf("Rules = %+v, %d, %v, want nothing, 17, false", got, place, ok)
	}
}

func TestAtom(t *testing.T) {
	got, ok := Atom(" p\n(a , X) ")
	want := rule.Atom{Predicate: "p", Terms: []rule.Term{rule.Name("a"), rule.Variable("X")}}
	if !ok || !reflect.DeepEqual(got, want) {
		t.Errorf("Atom = %+v, %v, want %+v", got, ok, want)
	}
	if got, ok := Atom("p"); !ok || got.Predicate != "p" || len(got.Terms) != 0 {
		t.Errorf("Atom = %+v, %v, want p", got, ok)
	}
	for _, s := range []string{"", "X", "not p", "p.", "p q", "p(a", "p()", "p(a,b,c,d,e)", "p?"} {
		if got, ok := Atom(s); ok || got.Predicate != "" || got.Terms != nil {
			t.Errorf("Atom(%q) = %+v, %v, want nothing", s, got, ok)
		}
	}
}
