package affidavit

import (
	"reflect"
	"slices"
	"strings"
	"testing"

	"affidavit/api"
)

func TestPrint(t *testing.T) {
	for text, want := range map[string]string{
		"":                           "",
		" \n":                        "",
		"p.":                         "p.\n",
		" p . q( a ,b ) .":           "p.\nq(a,b).\n",
		"p:-not\nq,r( X , 1).":       "p :- not q, r(X,1).\n",
		"p.p.p:-p,p,not q.":          "p.\np.\np :- p, p, not q.\n",
		"p ( X,  Y ):-q(X,a,Y , b).": "p(X,Y) :- q(X,a,Y,b).\n",
		example:                      "edge(a,b).\nedge(b,c).\npath(X,Y) :- edge(X,Y).\npath(X,Z) :- edge(X,Y), path(Y,Z).\nfar(X) :- path(a,X), not edge(a,X).\n",
	} {
		p := mustLoad(t, text)
		if s := p.Print(); s != want {
			t.Errorf("P4: Print of %q = %q, want %q", text, s, want)
		}
		again := mustLoad(t, want)
		if !reflect.DeepEqual(again, p) {
			t.Errorf("P4: %q loaded again is another program", want)
		}
	}
}

func TestPrintLonger(t *testing.T) {
	text := strings.Repeat("aaaaaa:-bbbbbb,cccccc,ddd.", api.MaxRules)
	want := strings.Repeat("aaaaaa :- bbbbbb, cccccc, ddd.\n", api.MaxRules)
	if s := mustLoad(t, text).Print(); s != want {
		t.Errorf("P4: Print = %q, want %q", s, want)
	}
	wantLoad(t, want, api.ErrLong, 0)
}

func TestStrata(t *testing.T) {
	for text, want := range map[string][]api.Stratum{
		"":                         nil,
		"p.":                       {{Name: "p"}},
		example:                    {{Name: "edge", Terms: 2}, {Name: "far", Stratum: 1, Terms: 1}, {Name: "path", Terms: 2}},
		"z(a). a(z,z,z,z). z2. 0.": {{Name: "0"}, {Name: "a", Terms: 4}, {Name: "z", Terms: 1}, {Name: "z2"}},
		"p(q) :- r(s).":            {{Name: "p", Terms: 1}, {Name: "r", Terms: 1}},
		"p :- not q.":              {{Name: "p", Stratum: 1}, {Name: "q"}},
		"d :- not c. c :- not b, a. b :- not a. e :- d.": {{Name: "a"}, {Name: "b", Stratum: 1}, {Name: "c", Stratum: 2}, {Name: "d", Stratum: 3}, {Name: "e", Stratum: 3}},
		"p :- q. q :- p. q :- not r. s :- p, not r.":     {{Name: "p", Stratum: 1}, {Name: "q", Stratum: 1}, {Name: "r"}, {Name: "s", Stratum: 1}},
	} {
		if l := mustLoad(t, text).Strata(); !slices.Equal(l, want) {
			t.Errorf("P5: Strata of %q = %+v, want %+v", text, l, want)
		}
	}
}

func TestStrataChain(t *testing.T) {
	var text strings.Builder
	for i := range byte(25) {
		text.WriteString(string('b'+i) + " :- not " + string('a'+i) + ".")
	}
	for i, s := range mustLoad(t, text.String()).Strata() {
		if s.Stratum != i || s.Name != string(rune('a'+i)) {
			t.Errorf("P5: %+v stands at %d", s, i)
		}
	}
}

// link is a rule of one literal: its head's predicate, and that of the literal.
type link struct {
	head, on int
	negative bool
}

const predicates = 4

func textOf(links []link) string {
	var b strings.Builder
	for _, l := range links {
		b.WriteString(string(rune('a'+l.head)) + " :- ")
		if l.negative {
			b.WriteString("not ")
		}
		b.WriteString(string(rune('a'+l.on)) + ".\n")
	}
	return b.String()
}

// leastNumbers tries all numbers for all predicates: those that suit the rules
// and are the least; or tells that none do.
func leastNumbers(links []link) ([predicates]int, bool) {
	least, found := [predicates]int{}, false
	for n := range predicates * predicates * predicates * predicates {
		var at [predicates]int
		for i := range at {
			at[i] = n % predicates
			n /= predicates
		}
		if !suits(at, links) {
			continue
		}
		for i := range at {
			if !found || at[i] < least[i] {
				least[i] = at[i]
			}
		}
		found = true
	}
	return least, found
}

func suits(at [predicates]int, links []link) bool {
	for _, l := range links {
		if at[l.on] > at[l.head] || l.negative && at[l.on] == at[l.head] {
			return false
		}
	}
	return true
}

// firstCycle tells the number of the first rule that denies what hangs on its head.
func firstCycle(links []link) (int, bool) {
	var hangs [predicates][predicates]bool
	for i := range hangs {
		hangs[i][i] = true
	}
	for _, l := range links {
		hangs[l.head][l.on] = true
	}
	for k := range predicates {
		for i := range predicates {
			for j := range predicates {
				hangs[i][j] = hangs[i][j] || hangs[i][k] && hangs[k][j]
			}
		}
	}
	for i, l := range links {
		if l.negative && hangs[l.on][l.head] {
			return i, true
		}
	}
	return 0, false
}

// Of all texts of three rules with one literal each, the strata are the least
// that suit, and the text is refused just where none do.
func TestStrataOfAllSmallTexts(t *testing.T) {
	const kinds = predicates * predicates * 2
	for n := range kinds * kinds * kinds {
		links := make([]link, 3)
		for i := range links {
			links[i] = link{head: n % predicates, on: n / predicates % predicates, negative: n/predicates/predicates%2 == 1}
			n /= kinds
		}
		text := textOf(links)
		least, found := leastNumbers(links)
		if i, cycle := firstCycle(links); cycle {
			if found {
				t.Fatalf("%q has strata and a cycle", text)
			}
			wantLoad(t, text, api.ErrCycle, len(textOf(links[:i]))+5)
			continue
		}
		for _, s := range mustLoad(t, text).Strata() {
			if want := least[s.Name[0]-'a']; !found || s.Stratum != want {
				t.Errorf("P5: Strata of %q: %+v, want %d", text, s, want)
			}
		}
	}
}
