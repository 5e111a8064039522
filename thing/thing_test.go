package thing

import (
	"testing"

	"affidavit/rule"
)

const x, y = rule.Variable("X"), rule.Variable("Y")

func atom(predicate string, terms ...rule.Term) rule.Atom {
	return rule.Atom{Predicate: predicate, Terms: terms}
}

func TestText(t *testing.T) {
	for want, thing := range map[string]Thing{
		"p":          {"p"},
		"p(a)":       {"p", "a"},
		"p(a,b,c,1)": {"p", "a", "b", "c", "1"},
	} {
		if s := thing.Text(); s != want {
			t.Errorf("Text = %q, want %q", s, want)
		}
	}
}

func TestMatch(t *testing.T) {
	for _, c := range []struct {
		atom  rule.Atom
		thing Thing
		want  bool
	}{
		{atom("p"), Thing{"p"}, true},
		{atom("p"), Thing{"q"}, false},
		{atom("p", x), Thing{"p", "a"}, true},
		{atom("p", x), Thing{"q", "a"}, false},
		{atom("p", rule.Name("a")), Thing{"p", "a"}, true},
		{atom("p", rule.Name("a")), Thing{"p", "b"}, false},
		{atom("p", x, y), Thing{"p", "a", "a"}, true},
		{atom("p", x, x), Thing{"p", "a", "a"}, true},
		{atom("p", x, x), Thing{"p", "a", "b"}, false},
		{atom("p", x, rule.Name("b"), x), Thing{"p", "a", "b", "a"}, true},
		{atom("p", x, rule.Name("b"), x), Thing{"p", "a", "b", "b"}, false},
		{atom("p", rule.Name("X")), Thing{"p", "a"}, false},
	} {
		b, ok := Binding{}.Match(c.atom, c.thing)
		if ok != c.want {
			t.Errorf("Match(%v, %v) = %v", c.atom, c.thing, ok)
		}
		if ok && b.Fill(c.atom) != c.thing {
			t.Errorf("%v filled is %v, want %v", c.atom, b.Fill(c.atom), c.thing)
		}
		if !ok && b != (Binding{}) {
			t.Errorf("Match(%v, %v) binds, although it fails", c.atom, c.thing)
		}
	}
}

// Two matches that go on from one binding leave it and each other as they are.
func TestMatchGoesOn(t *testing.T) {
	first, _ := Binding{}.Match(atom("p", x), Thing{"p", "a"})
	one, ok := first.Match(atom("q", x, y), Thing{"q", "a", "1"})
	two, also := first.Match(atom("q", x, y), Thing{"q", "a", "2"})
	if !ok || !also {
		t.Fatal("no match")
	}
	if _, ok := first.Match(atom("q", x, y), Thing{"q", "b", "1"}); ok {
		t.Error("a variable is two things")
	}
	for want, b := range map[Thing]Binding{{"r", "1", "a", "c"}: one, {"r", "2", "a", "c"}: two} {
		if got := b.Fill(atom("r", y, x, rule.Name("c"))); got != want {
			t.Errorf("Fill = %v, want %v", got, want)
		}
	}
	if third, ok := first.Match(atom("s", y), Thing{"s", "3"}); !ok || third.Fill(atom("r", y)) != (Thing{"r", "3"}) {
		t.Error("a binding was changed by a match")
	}
}

func TestOf(t *testing.T) {
	a, b := rule.Name("a"), rule.Name("b")
	for _, c := range []struct {
		atom rule.Atom
		want Thing
		ok   bool
	}{
		{atom("p"), Thing{"p"}, true},
		{atom("p", a, b, b, a), Thing{"p", "a", "b", "b", "a"}, true},
		{atom("p", rule.Name("X")), Thing{"p", "X"}, true},
		{atom("p", x), Thing{}, false},
		{atom("p", a, x), Thing{}, false},
		{atom("p", x, a), Thing{}, false},
	} {
		if got, ok := Of(c.atom); got != c.want || ok != c.ok {
			t.Errorf("Of(%v) = %v, %v, want %v, %v", c.atom, got, ok, c.want, c.ok)
		}
	}
}
