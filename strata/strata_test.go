package strata

import (
	"slices"
	"testing"

	"affidavit/api"
	"affidavit/rule"
)

func plain(predicate string) rule.Atom { return rule.Atom{Predicate: predicate} }

// chain makes rules, a row each: the head's predicate, then the body's, the
// negative ones with a `-` ahead.
func chain(rows ...[]string) []rule.Rule {
	var rules []rule.Rule
	for _, row := range rows {
		r := rule.Rule{Head: plain(row[0])}
		for _, s := range row[1:] {
			if s[0] == '-' {
				r.Body = append(r.Body, rule.Literal{Negative: true, Atom: plain(s[1:])})
			} else {
				r.Body = append(r.Body, rule.Literal{Atom: plain(s)})
			}
		}
		rules = append(rules, r)
	}
	return rules
}

func TestHangs(t *testing.T) {
	links := LinksOf(chain([]string{"a", "b", "-c"}, []string{"c", "d"}, []string{"d", "c"}, []string{"e"}))
	for _, c := range []struct {
		p, q string
		want bool
	}{
		{"a", "b", true}, {"a", "c", true}, {"a", "d", true}, {"c", "c", true}, {"d", "d", true},
		{"a", "a", false}, {"b", "a", false}, {"d", "a", false}, {"a", "e", false}, {"e", "e", false}, {"x", "a", false}, {"a", "x", false},
	} {
		if got := links.Hangs(c.p, c.q); got != c.want {
			t.Errorf("Hangs(%s, %s) = %v", c.p, c.q, got)
		}
	}
}

func TestOf(t *testing.T) {
	rules := chain([]string{"d", "c"}, []string{"c", "-b", "d"}, []string{"b", "-a"}, []string{"a", "a"}, []string{"b", "z9"})
	rules = append(rules, rule.Rule{Head: rule.Atom{Predicate: "z", Terms: []rule.Term{rule.Name("a"), rule.Name("b")}}})
	want := []api.Stratum{{Name: "a"}, {Name: "b", Stratum: 1}, {Name: "c", Stratum: 2}, {Name: "d", Stratum: 2}, {Name: "z", Terms: 2}, {Name: "z9"}}
	for range 20 {
		if got := Of(rules).List(); !slices.Equal(got, want) {
			t.Fatalf("List = %+v, want %+v", got, want)
		}
	}
	if got := Of(nil).List(); len(got) != 0 {
		t.Errorf("List of no rules = %+v", got)
	}
}

func TestCount(t *testing.T) {
	if n := Of(nil).Count(); n != 0 {
		t.Errorf("Count of no rules = %d", n)
	}
	if n := Of(chain([]string{"a", "b"})).Count(); n != 1 {
		t.Errorf("Count = %d, want 1", n)
	}
	if n := Of(chain([]string{"a", "-b"}, []string{"b", "-c"}, []string{"d"})).Count(); n != 3 {
		t.Errorf("Count = %d, want 3", n)
	}
}

func TestSuits(t *testing.T) {
	one := rule.Atom{Predicate: "p", Terms: []rule.Term{rule.Variable("X")}}
	table := Of([]rule.Rule{{Head: plain("q"), Body: []rule.Literal{{Atom: one}}}})
	if !table.Suits(one) || !table.Suits(plain("q")) || !table.Suits(plain("owl")) {
		t.Error("an atom with the right number of terms does not suit")
	}
	if table.Suits(plain("p")) || table.Suits(rule.Atom{Predicate: "q", Terms: one.Terms}) {
		t.Error("an atom with another number of terms suits")
	}
}
