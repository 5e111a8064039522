package follow

import (
	"maps"
	"slices"
	"strings"
	"testing"

	"affidavit/api"
	"affidavit/read"
	"affidavit/rule"
	"affidavit/strata"
	"affidavit/thing"
)

const example = "edge(a,b). edge(b,c). path(X,Y) :- edge(X,Y). path(X,Z) :- edge(X,Y), path(Y,Z). far(X) :- path(a,X), not edge(a,X)."

func rulesOf(t *testing.T, text string) []rule.Rule {
	t.Helper()
	got, place, ok := read.Rules(text)
	if !ok {
		t.Fatalf("no text: %q, at %d", text, place)
	}
	return got.Rules
}

func heightsOf(t *testing.T, text string, limit int) (map[string]int, bool) {
	t.Helper()
	rules := rulesOf(t, text)
	known, ok := Of(rules, strata.Of(rules), limit)
	heights := map[string]int{}
	for thing, height := range known {
		heights[thing.Text()] = height
	}
	return heights, ok
}

func TestHeights(t *testing.T) {
	for text, want := range map[string]map[string]int{
		"":                  {},
		"p :- q.":           {},
		"p. p :- q. q.":     {"p": 1, "q": 1},
		"p :- q. q.":        {"p": 2, "q": 1},
		"p :- q, not r. q.": {"p": 1, "q": 1},
		"p :- not r, s. q. s :- p, q. s :- q, not r.": {"p": 2, "q": 1, "s": 1},
		"c :- b. b :- a. a. c :- a.":                  {"a": 1, "b": 2, "c": 2},
		"d :- c, b. c :- b. b :- a. a.":               {"a": 1, "b": 2, "c": 3, "d": 4},
		example:                                       {"edge(a,b)": 1, "edge(b,c)": 1, "path(a,b)": 2, "path(b,c)": 2, "path(a,c)": 3, "far(c)": 1},
	} {
		if got, ok := heightsOf(t, text, api.MaxAtoms); !ok || !maps.Equal(got, want) {
			t.Errorf("of %q: %v, want %v", text, got, want)
		}
	}
}

func TestLimit(t *testing.T) {
	for limit := 1; limit <= 8; limit++ {
		got, ok := heightsOf(t, example, limit)
		if ok != (limit >= 6) || !ok && len(got) != 0 {
			t.Errorf("with the limit %d: %v, %v", limit, got, ok)
		}
	}
}

func TestMatching(t *testing.T) {
	known := Heights{{"p", "b", "a"}: 1, {"p", "a", "a"}: 2, {"p", "10", "1"}: 1, {"p", "1", "1"}: 1, {"q", "a"}: 1}
	for atom, want := range map[string]string{
		"p(X,Y)": "p(1,1) p(10,1) p(a,a) p(b,a)", "p(X,X)": "p(1,1) p(a,a)", "p(X,a)": "p(a,a) p(b,a)", "q(X)": "q(a)", "q(b)": "", "owl": "",
	} {
		a, _ := read.Atom(atom)
		if got := strings.Join(known.Matching(a), " "); got != want {
			t.Errorf("Matching(%s) = %q, want %q", atom, got, want)
		}
	}
}

// waysOf has the heads of all ways, as texts, sorted.
func waysOf(r rule.Rule, said map[thing.Thing]int) string {
	var heads []string
	for b := range Ways(r, said) {
		heads = append(heads, b.Fill(r.Head).Text())
	}
	slices.Sort(heads)
	return strings.Join(heads, " ")
}

func TestWays(t *testing.T) {
	said := map[thing.Thing]int{{"p", "a"}: 0, {"p", "b"}: 7, {"q", "a", "b"}: 0, {"q", "b", "b"}: 0}
	for text, want := range map[string]string{
		"h.":                                "h",
		"h :- not p(c).":                    "h",
		"h :- not p(a).":                    "",
		"h(X) :- p(X).":                     "h(a) h(b)",
		"h :- p(X).":                        "h h",
		"h(X) :- not q(X,X), p(X).":         "h(a)",
		"h(X,Y) :- p(X), p(Y).":             "h(a,a) h(a,b) h(b,a) h(b,b)",
		"h(X,Y) :- p(Y), q(X,Y), p(X).":     "h(a,b) h(b,b)",
		"h(X,Y) :- p(X), p(Y), not q(X,Y).": "h(a,a) h(b,a)",
		"h(X) :- q(X,X).":                   "h(b)",
		"h(X) :- q(X,a).":                   "",
		"h(X) :- r(X).":                     "",
	} {
		if got := waysOf(rulesOf(t, text)[0], said); got != want {
			t.Errorf("the ways of %q: %q, want %q", text, got, want)
		}
	}
	if len(said) != 4 {
		t.Error("what is said was changed")
	}
}

func TestWaysCanBeLeft(t *testing.T) {
	said := map[thing.Thing]int{{"p", "a"}: 0, {"p", "b"}: 0}
	seen := 0
	for range Ways(rulesOf(t, "h :- p(X), p(Y), p(Z).")[0], said) {
		seen++
		if seen == 3 {
			break
		}
	}
	if seen != 3 {
		t.Errorf("%d ways were gone through, want 3", seen)
	}
}
