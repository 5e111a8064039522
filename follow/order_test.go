package follow

import (
	"slices"
	"strings"
	"testing"

	"affidavit/api"
	"affidavit/strata"
	"affidavit/thing"
)

func TestOrder(t *testing.T) {
	for text, want := range map[string]string{
		"":                                    "",
		"p :- q.":                             "",
		"b. a. c.":                            "a b c",
		"a :- b. b. c.":                       "b c a",
		"a :- not z. b :- y. y :- x. x.":      "x y b a",
		example:                               "edge(a,b) edge(b,c) path(a,b) path(b,c) path(a,c) far(c)",
		"p(2). p(10). p(b). p(a1). p(a). p0.": "p(10) p(2) p(a) p(a1) p(b) p0",
	} {
		rules := rulesOf(t, text)
		table := strata.Of(rules)
		known, _ := Of(rules, table, api.MaxAtoms)
		var got []string
		for _, p := range known.Order(table) {
			got = append(got, p.Thing.Text())
			if p.Height != known[p.Thing] || p.Stratum != table[p.Thing[0]].Stratum {
				t.Errorf("of %q: %+v", text, p)
			}
		}
		if strings.Join(got, " ") != want {
			t.Errorf("the order of %q: %q, want %q", text, got, want)
		}
	}
}

func TestUnder(t *testing.T) {
	one := func(stratum, height int) Placed { return Placed{Stratum: stratum, Height: height} }
	for _, c := range []struct {
		p, q Placed
		want bool
	}{
		{one(0, 1), one(0, 1), false},
		{one(0, 1), one(0, 2), true},
		{one(0, 2), one(0, 1), false},
		{one(0, 5), one(1, 1), true},
		{one(1, 1), one(0, 5), false},
		{one(0, 1), one(1, 1), true},
	} {
		if got := c.p.Under(c.q); got != c.want {
			t.Errorf("%+v under %+v: %v", c.p, c.q, got)
		}
	}
}

func TestWaysTo(t *testing.T) {
	said := map[thing.Thing]int{{"p", "a"}: 0, {"p", "b"}: 7, {"q", "a", "b"}: 0, {"q", "b", "b"}: 0}
	for _, c := range []struct {
		text string
		head thing.Thing
		want []string
	}{
		{"h.", thing.Thing{"h"}, []string{""}},
		{"h.", thing.Thing{"i"}, nil},
		{"h(a).", thing.Thing{"h", "a"}, []string{""}},
		{"h(a).", thing.Thing{"h", "b"}, nil},
		{"h :- p(X).", thing.Thing{"h"}, []string{"p(a)", "p(b)"}},
		{"h(X) :- p(X).", thing.Thing{"h", "b"}, []string{"p(b)"}},
		{"h(X) :- p(X).", thing.Thing{"h", "c"}, nil},
		{"h(X,X) :- p(X).", thing.Thing{"h", "a", "b"}, nil},
		{"h(Y) :- p(X), q(X,Y).", thing.Thing{"h", "b"}, []string{"p(a) q(a,b)", "p(b) q(b,b)"}},
		{"h(Y) :- p(X), q(X,Y), not q(X,X).", thing.Thing{"h", "b"}, []string{"p(a) q(a,b)"}},
	} {
		r := rulesOf(t, c.text)[0]
		var got []string
		for b := range WaysTo(r, c.head, said) {
			var literals []string
			for _, a := range r.Positive() {
				literals = append(literals, b.Fill(a).Text())
			}
			got = append(got, strings.Join(literals, " "))
		}
		slices.Sort(got)
		if !slices.Equal(got, c.want) {
			t.Errorf("the ways of %q to %v: %q, want %q", c.text, c.head, got, c.want)
		}
	}
}
