package affidavit

import (
	"slices"
	"strings"
	"testing"

	"affidavit/api"
)

// wantQuery holds Query's whole answer against a list, with blanks between.
func wantQuery(t *testing.T, p *Program, atom string, limit int, want string) {
	t.Helper()
	l, e := p.Query(atom, limit)
	if e != api.OK || strings.Join(l, " ") != want {
		t.Errorf("P6: Query(%q, %d) = %q, %d, want %q", atom, limit, l, e, want)
	}
}

func wantRefused(t *testing.T, p *Program, atom string, limit int, want api.Errno) {
	t.Helper()
	l, e := p.Query(atom, limit)
	if e != want {
		t.Errorf("P6: Query(%q, %d) = error %d, want %d", atom, limit, e, want)
	}
	if len(l) != 0 {
		t.Errorf("P1: Query(%q, %d) = %q beside an error", atom, limit, l)
	}
}

func TestQueryExample(t *testing.T) {
	p := mustLoad(t, example)
	for atom, want := range map[string]string{
		"edge(X,Y)":              "edge(a,b) edge(b,c)",
		"path(a,X)":              "path(a,b) path(a,c)",
		"path(X,c)":              "path(a,c) path(b,c)",
		"path(X,Y)":              "path(a,b) path(a,c) path(b,c)",
		"path(X,X)":              "",
		"path(a,c)":              "path(a,c)",
		"path(c,a)":              "",
		"far(X)":                 "far(c)",
		"far(zzz)":               "",
		" far\n( ABCDEFGH )  \n": "far(c)",
		strings.Repeat(" ", 5000) + "far(c)" + strings.Repeat("\n", 5000): "far(c)",
	} {
		wantQuery(t, p, atom, api.MaxAtoms, want)
	}
}

func TestQueryVariableTwice(t *testing.T) {
	p := mustLoad(t, "p(a,a,b,b). p(a,b,a,b). p(b,b,b,b). p(a,b,b,a).")
	for atom, want := range map[string]string{
		"p(W,X,Y,Z)": "p(a,a,b,b) p(a,b,a,b) p(a,b,b,a) p(b,b,b,b)",
		"p(X,X,X,X)": "p(b,b,b,b)",
		"p(X,X,Y,Y)": "p(a,a,b,b) p(b,b,b,b)",
		"p(X,Y,X,Y)": "p(a,b,a,b) p(b,b,b,b)",
		"p(X,Y,Y,X)": "p(a,b,b,a) p(b,b,b,b)",
		"p(X,X,b,Y)": "p(a,a,b,b) p(b,b,b,b)",
		"p(a,X,X,b)": "",
		"p(X,b,Y,X)": "p(a,b,b,a) p(b,b,b,b)",
		"p(a,X,Y,a)": "p(a,b,b,a)",
	} {
		wantQuery(t, p, atom, api.MaxAtoms, want)
	}
}

// The order is that of the bytes of the texts, in which `(` and `,` count too.
func TestQueryOrder(t *testing.T) {
	p := mustLoad(t, "n(2). n(10). n(1). n(b). n(a1). n(a). m(X,Y) :- n(X), n(Y).")
	wantQuery(t, p, "n(X)", api.MaxAtoms, "n(1) n(10) n(2) n(a) n(a1) n(b)")
	wantQuery(t, p, "m(X,1)", api.MaxAtoms, "m(1,1) m(10,1) m(2,1) m(a,1) m(a1,1) m(b,1)")
	wantQuery(t, p, "m(1,X)", api.MaxAtoms, "m(1,1) m(1,10) m(1,2) m(1,a) m(1,a1) m(1,b)")
	l, _ := p.Query("m(X,Y)", api.MaxAtoms)
	if len(l) != 36 || !slices.IsSorted(l) {
		t.Errorf("P6: Query = %q, want 36 rising texts", l)
	}
}

func TestQueryPredicateNotInText(t *testing.T) {
	p := mustLoad(t, example)
	for _, atom := range []string{"owl", "owl(a)", "owl(X)", "owl(X,X,a,Y)", "edg(X,Y)", "a", "b(c)", "0"} {
		wantQuery(t, p, atom, api.MaxAtoms, "")
	}
	wantQuery(t, mustLoad(t, ""), "p(X)", 1, "")
	wantQuery(t, mustLoad(t, "p :- q(X)."), "q(X)", 1, "")
}

func TestQueryNoAtom(t *testing.T) {
	p := mustLoad(t, example)
	for _, atom := range []string{
		"", " ", "\n", ".", "X", "X(a)", "not", "not far(c)", "not(c)", "far(c).", "far(c) far(c)", "far(c), far(c)", "far(c) :- far(c)",
		"far(", "far(c", "far(c,", "far(c,)", "far()", "far(,c)", "far c", "far(c))", "(far(c))", "far(not)", "far(far(c))",
		"owl(a,b,c,d,e)", "owl(A,B,C,D,E)", "owl(a,b,c,d,)", "abcdefghi", "far(ABCDEFGHI)", "far(abcdefghi)", "far(aB)", "far(Ba)",
		"far\t(c)", "far(c)\x00", "\xff", "far(é)", "owl:", "owl :-", strings.Repeat("(", 100000), strings.Repeat("a", 100000),
	} {
		wantRefused(t, p, atom, api.MaxAtoms, api.ErrAsk)
	}
}

func TestQueryOtherNumberOfTerms(t *testing.T) {
	p := mustLoad(t, example+" deep :- wide(X,a,b,c), not lone(X).")
	for _, atom := range []string{
		"edge", "edge(X)", "edge(a,b,c)", "edge(W,X,Y,Z)", "path(X)", "far", "far(X,Y)", "far(c,c,c,c)", "deep(X)", "wide", "wide(X)", "wide(X,Y,Z)", "lone", "lone(X,X)",
	} {
		wantRefused(t, p, atom, api.MaxAtoms, api.ErrAsk)
	}
	wantQuery(t, p, "lone(X)", api.MaxAtoms, "")
	wantQuery(t, p, "wide(X,Y,Z,W)", api.MaxAtoms, "")
}

func TestQueryLimitThatMayNotBe(t *testing.T) {
	p := mustLoad(t, example)
	for _, limit := range []int{0, -1, api.MaxAtoms + 1, 1000, 1 << 62, -1 << 63} {
		wantRefused(t, p, "far(X)", limit, api.ErrArg)
	}
}

func TestQueryLimit(t *testing.T) {
	for text, things := range map[string]int{
		"p.":                                  1,
		"p. p. p :- p.":                       1,
		"p. q.":                               2,
		"p. q :- not p.":                      1,
		"p. q :- not r.":                      2,
		example:                               6,
		full(""):                              api.MaxAtoms,
		"p(a). q(X) :- p(X), not r(X). r(b).": 3,
	} {
		p := mustLoad(t, text)
		for limit := 1; limit <= api.MaxAtoms; limit++ {
			if limit < things {
				wantRefused(t, p, "owl", limit, api.ErrLimit)
			} else {
				wantQuery(t, p, "owl", limit, "")
			}
		}
	}
	wantRefused(t, mustLoad(t, full("z.")), "z", api.MaxAtoms, api.ErrLimit)
	wantQuery(t, mustLoad(t, full("")), "a(X)", api.MaxAtoms, "a(1) a(2)")
	for _, limit := range []int{1, api.MaxAtoms} {
		wantQuery(t, mustLoad(t, ""), "z", limit, "")
		wantQuery(t, mustLoad(t, "z."), "z", limit, "z")
		wantQuery(t, mustLoad(t, "z :- z. y :- z."), "y", limit, "")
	}
}

// full is a text from which just MaxAtoms things follow, and a rule more.
func full(more string) string {
	text := "a(1). a(2). c(X,Y) :- a(X), b(Y). " + more
	for i := range byte(16) {
		text += "b(" + string(rune('a'+i)) + "). "
	}
	return text
}

// What makes them too many may be of a later stratum than what is asked, far
// more than the limit, or nothing that the asked predicate hangs on.
func TestQueryLimitIsOfTheWholeText(t *testing.T) {
	wantRefused(t, mustLoad(t, "p. q :- not r. s :- not t, q."), "p", 2, api.ErrLimit)
	wantRefused(t, mustLoad(t, "p. q(a). q(b)."), "p", 2, api.ErrLimit)
	wantRefused(t, mustLoad(t, "p. q(a). q(b)."), "owl(X)", 2, api.ErrLimit)
	many := "d(0). d(1). d(2). d(3). d(4). d(5). d(6). d(7). d(8). d(9). "
	wantRefused(t, mustLoad(t, many+"q(X,Y,Z) :- d(X), d(Y), d(Z)."), "d(X)", api.MaxAtoms, api.ErrLimit)
	wantRefused(t, mustLoad(t, many+"q(X,Y) :- d(X), d(Y). r(X,Y,Z,W) :- q(X,Y), q(Z,W)."), "r(0,0,0,0)", api.MaxAtoms, api.ErrLimit)
}

func TestQueryWhichError(t *testing.T) {
	p := mustLoad(t, example)
	for _, limit := range []int{0, api.MaxAtoms + 1} {
		wantRefused(t, p, "far(", limit, api.ErrArg)
		wantRefused(t, p, "far(X,Y)", limit, api.ErrArg)
		wantRefused(t, p, "owl", limit, api.ErrArg)
	}
	wantRefused(t, p, "far(", 1, api.ErrAsk)
	wantRefused(t, p, "far(X,Y)", 1, api.ErrAsk)
	wantRefused(t, p, "far(X)", 1, api.ErrLimit)
	wantRefused(t, p, "owl", 1, api.ErrLimit)
}

func TestQueryNegativeOverStrata(t *testing.T) {
	p := mustLoad(t, "a. b :- not a. c :- not b. d :- not c. e :- not d, c. f :- not e, not d. g :- not f, not d, e.")
	for atom, follows := range map[string]bool{"a": true, "b": false, "c": true, "d": false, "e": true, "f": false, "g": true} {
		want := ""
		if follows {
			want = atom
		}
		wantQuery(t, p, atom, api.MaxAtoms, want)
	}
	p = mustLoad(t, "win(X) :- two(X). two(X) :- n(X), not one(X). one(X) :- m(X,Y), not zero(Y). zero(X) :- n(X), not some(X). some(X) :- m(X,Y). "+
		"n(a). n(b). n(c). n(d). m(a,b). m(b,c). m(c,d).")
	wantQuery(t, p, "some(X)", api.MaxAtoms, "some(a) some(b) some(c)")
	wantQuery(t, p, "zero(X)", api.MaxAtoms, "zero(d)")
	wantQuery(t, p, "one(X)", api.MaxAtoms, "one(a) one(b)")
	wantQuery(t, p, "two(X)", api.MaxAtoms, "two(c) two(d)")
	wantQuery(t, p, "win(X)", api.MaxAtoms, "win(c) win(d)")
}

// A negative literal may stand ahead of the positive ones that bind its
// variables, and may have names that stand nowhere else.
func TestQueryNegativeAnywhere(t *testing.T) {
	p := mustLoad(t, "p(X) :- not q(X), r(X). r(a). r(b). r(c). q(b). s(X) :- not q(zz), r(X), not q(X). t(Y) :- r(X), not q(X), u(X,Y). u(a,1). u(b,2).")
	wantQuery(t, p, "p(X)", api.MaxAtoms, "p(a) p(c)")
	wantQuery(t, p, "s(X)", api.MaxAtoms, "s(a) s(c)")
	wantQuery(t, p, "t(X)", api.MaxAtoms, "t(1)")
}

func TestQueryNothingFollowsFromItself(t *testing.T) {
	p := mustLoad(t, "p :- p. q :- r. r :- q. s(X) :- s(X). t :- not p, not q.")
	for atom, want := range map[string]string{"p": "", "q": "", "r": "", "s(X)": "", "t": "t"} {
		wantQuery(t, p, atom, api.MaxAtoms, want)
	}
}

// A chain of as many heights as there may be rules, told in falling order.
func TestQueryLongChain(t *testing.T) {
	text := ""
	for i := range byte(25) {
		text += string(rune('b'+i)) + " :- " + string(rune('a'+i)) + ". "
	}
	wantQuery(t, mustLoad(t, text+"a."), "z", 26, "z")
	wantQuery(t, mustLoad(t, text), "z", 1, "")
	p := mustLoad(t, "s(1,2). s(2,3). s(3,4). s(4,5). s(5,6). n(Y) :- s(X,Y), n(X). n(1). all(X,Y,Z,W) :- n(X), s(X,Y), w(Z,W). w(A,B) :- s(A,B), n(A), not v(A). v(4).")
	wantQuery(t, p, "n(X)", api.MaxAtoms, "n(1) n(2) n(3) n(4) n(5) n(6)")
	wantQuery(t, p, "all(X,Y,X,Y)", api.MaxAtoms, "all(1,2,1,2) all(2,3,2,3) all(3,4,3,4) all(5,6,5,6)")
}

// As many variables as a rule can have.
func TestQueryWidestRule(t *testing.T) {
	p := mustLoad(t, "p(a,b,c,d). q(D,E,I,L) :- p(A,B,C,D), p(E,F,G,H), p(I,J,K,L).")
	wantQuery(t, p, "q(A,B,C,D)", 2, "q(d,a,a,d)")
}
