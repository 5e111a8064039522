package affidavit

import (
	"slices"
	"strconv"
	"strings"
	"testing"

	"affidavit/api"
)

// bytesOf reads the bytes of a witness, with blanks between.
func bytesOf(t *testing.T, text string) []byte {
	t.Helper()
	var list []byte
	for _, s := range strings.Fields(text) {
		n, err := strconv.ParseUint(s, 10, 8)
		if err != nil {
			t.Fatal(err)
		}
		list = append(list, byte(n))
	}
	return list
}

// wantWhy holds Explain's whole answer against an expected one.
func wantWhy(t *testing.T, p *Program, thing string, limit, verdict, height int, witness string) {
	t.Helper()
	y, e := p.Explain(thing, limit)
	if e != api.OK || y.Verdict != verdict || y.Height != height || !slices.Equal(y.Witness, bytesOf(t, witness)) {
		t.Errorf("P7: Explain(%q, %d) = %+v, %d, want %d, %d, %s", thing, limit, y, e, verdict, height, witness)
	}
}

func wantIn(t *testing.T, p *Program, thing string, height int, witness string) {
	t.Helper()
	wantWhy(t, p, thing, api.MaxAtoms, api.In, height, witness)
}

func wantOut(t *testing.T, p *Program, thing string, witness string) {
	t.Helper()
	wantWhy(t, p, thing, api.MaxAtoms, api.Out, 0, witness)
}

func wantUnexplained(t *testing.T, p *Program, thing string, limit int, want api.Errno) {
	t.Helper()
	y, e := p.Explain(thing, limit)
	if e != want {
		t.Errorf("P7: Explain(%q, %d) = error %d, want %d", thing, limit, e, want)
	}
	if y.Verdict != 0 || y.Height != 0 || len(y.Witness) != 0 {
		t.Errorf("P1: Explain(%q, %d) = %+v beside an error", thing, limit, y)
	}
}

func TestExplainExample(t *testing.T) {
	p := mustLoad(t, example)
	wantIn(t, p, "edge(a,b)", 1, "0 1  0")
	wantIn(t, p, "edge(b,c)", 1, "0 1  1")
	wantIn(t, p, "path(a,b)", 2, "0 2  0  2 0")
	wantIn(t, p, "path(b,c)", 2, "0 2  1  2 0")
	wantIn(t, p, "path(a,c)", 3, "0 4  0  1  2 1  3 0 2")
	wantIn(t, p, "far(c)", 1, "1 6  0  1  2 0  2 1  3 0 3  4 4")
	wantOut(t, p, "path(c,a)", "1 5  0  1  2 0  2 1  3 0 3")
	wantOut(t, p, "edge(a,c)", "1 5  0  1  2 0  2 1  3 0 3")
	wantOut(t, p, "far(b)", "2 6  0  1  2 0  2 1  3 0 3  4 4")
	wantOut(t, p, "far(owl)", "2 6  0  1  2 0  2 1  3 0 3  4 4")
	wantOut(t, p, "owl", "0 0")
	wantIn(t, p, " \n path\n( a\n, c ) \n", 3, "0 4  0  1  2 1  3 0 2")
}

func TestExplainPredicateNotInText(t *testing.T) {
	for _, text := range []string{"", "p.", "p :- not q.", example} {
		p := mustLoad(t, text)
		for _, thing := range []string{"owl", "owl(a)", "owl(a,b,c,d)", "0", "a", "edg(a,b)"} {
			wantOut(t, p, thing, "0 0")
		}
	}
	p := mustLoad(t, "p(q) :- r(s).")
	wantOut(t, p, "q", "0 0")
	wantOut(t, p, "s", "0 0")
	wantOut(t, p, "r(s)", "1 0")
}

// A predicate that is in bodies alone is in the text, and nothing follows of it.
func TestExplainPredicateOfBodiesAlone(t *testing.T) {
	p := mustLoad(t, "a. b :- not z. c :- a, y.")
	wantOut(t, p, "z", "1 1  0")
	wantOut(t, p, "y", "1 1  0")
	wantOut(t, p, "c", "1 1  0")
	wantIn(t, p, "b", 1, "1 2  0  1")
}

func TestExplainNoThing(t *testing.T) {
	p := mustLoad(t, example)
	for _, thing := range []string{
		"", " ", "\n", ".", "X", "not", "not far(c)", "far(c).", "far(c) far(c)", "far(c), far(c)", "far(c) :- far(c)", "far(", "far(c", "far(c,)",
		"far()", "far(far(c))", "far(not)", "owl(a,b,c,d,e)", "abcdefghi", "far(abcdefghi)", "far\t(c)", "far(c)\x00", "\xff", "owl :-",
		"edge", "edge(a)", "edge(a,b,c)", "far", "far(c,c)", strings.Repeat("(", 100000), strings.Repeat("a", 100000),
	} {
		wantUnexplained(t, p, thing, api.MaxAtoms, api.ErrAsk)
	}
}

func TestExplainVariable(t *testing.T) {
	p := mustLoad(t, example)
	for _, thing := range []string{"far(X)", "far(ABCDEFGH)", "path(a,X)", "path(X,c)", "path(X,X)", "edge(X,Y)", "owl(X)", "owl(a,b,c,X)", "owl(X,a,b,c)"} {
		wantUnexplained(t, p, thing, api.MaxAtoms, api.ErrAsk)
		wantUnexplained(t, mustLoad(t, ""), thing, 1, api.ErrAsk)
	}
	wantIn(t, mustLoad(t, "x(x)."), "x(x)", 1, "0 1  0")
}

func TestExplainLimitThatMayNotBe(t *testing.T) {
	p := mustLoad(t, example)
	for _, limit := range []int{0, -1, api.MaxAtoms + 1, 256, 1000, 1 << 62, -1 << 63} {
		wantUnexplained(t, p, "far(c)", limit, api.ErrArg)
	}
}

func TestExplainLimit(t *testing.T) {
	p := mustLoad(t, example)
	for limit := 1; limit <= api.MaxAtoms; limit++ {
		if limit < 6 {
			wantUnexplained(t, p, "edge(a,b)", limit, api.ErrLimit)
			wantUnexplained(t, p, "edge(b,a)", limit, api.ErrLimit)
			wantUnexplained(t, p, "owl", limit, api.ErrLimit)
		} else {
			wantWhy(t, p, "edge(a,b)", limit, api.In, 1, "0 1  0")
			wantWhy(t, p, "owl", limit, api.Out, 0, "0 0")
		}
	}
	for _, limit := range []int{1, api.MaxAtoms} {
		wantWhy(t, mustLoad(t, ""), "p", limit, api.Out, 0, "0 0")
		wantWhy(t, mustLoad(t, "p."), "p", limit, api.In, 1, "0 1  0")
		wantWhy(t, mustLoad(t, "p. q :- not p."), "q", limit, api.Out, 0, "2 1  0")
	}
	wantUnexplained(t, mustLoad(t, full("z.")), "a(1)", api.MaxAtoms, api.ErrLimit)
	wantUnexplained(t, mustLoad(t, full("")), "a(1)", api.MaxAtoms-1, api.ErrLimit)
}

// As many nodes as there may be: 2 and 16 facts, and each with each.
func TestExplainMostNodes(t *testing.T) {
	want := "1 50  0  1 "
	for i := range 16 {
		want += " " + strconv.Itoa(3+i)
	}
	for a := range 2 {
		for b := range 16 {
			want += "  2 " + strconv.Itoa(a) + " " + strconv.Itoa(2+b)
		}
	}
	p := mustLoad(t, full(""))
	wantOut(t, p, "a(3)", want)
	wantOut(t, p, "c(a,1)", want)
	wantIn(t, p, "c(2,p)", 2, "0 3  1  18  2 0 1")
}

func TestExplainWhichError(t *testing.T) {
	p := mustLoad(t, example)
	for _, limit := range []int{0, api.MaxAtoms + 1} {
		for _, thing := range []string{"far(", "far(a,b)", "far(X)", "owl(X)", "owl", "far(c)"} {
			wantUnexplained(t, p, thing, limit, api.ErrArg)
		}
	}
	for _, thing := range []string{"far(", "far(a,b)", "far(X)", "owl(X)", "far(X,Y)"} {
		wantUnexplained(t, p, thing, 1, api.ErrAsk)
	}
	wantUnexplained(t, p, "far(c)", 1, api.ErrLimit)
	wantUnexplained(t, p, "owl", 1, api.ErrLimit)
}

// The least rule of those that give the height; a rule that gives a greater one
// does not count, were it the first.
func TestExplainLeastRule(t *testing.T) {
	p := mustLoad(t, "c :- b. c :- a. c :- d. b :- a. a. d. d. a.")
	wantIn(t, p, "a", 1, "0 1  4")
	wantIn(t, p, "d", 1, "0 1  5")
	wantIn(t, p, "b", 2, "0 2  4  3 0")
	wantIn(t, p, "c", 2, "0 2  4  1 0")
	p = mustLoad(t, "c :- b. b :- a. a. c.")
	wantIn(t, p, "c", 1, "0 1  3")
	// two ways by rule 0, of which one is of the height, and one by rule 1
	p = mustLoad(t, "q :- p(X). q :- r. p(a) :- s. p(b). r. s.")
	wantIn(t, p, "q", 2, "0 2  3  0 0")
	// rule 0 gives things of one predicate other heights than rule 1
	p = mustLoad(t, "p(X) :- q(X). p(X) :- r(X). q(a). q(b) :- q(a). r(b). r(c).")
	wantIn(t, p, "p(a)", 2, "0 2  2  0 0")
	wantIn(t, p, "p(b)", 2, "0 2  4  1 0")
	wantIn(t, p, "p(c)", 2, "0 2  5  1 0")
	// a rule whose negative literal follows gives nothing
	p = mustLoad(t, "p :- q, not r. p :- not s, q. q. r.")
	wantIn(t, p, "p", 1, "1 3  2  3  1 0")
}

// A literal of a lower stratum may have any height.
func TestExplainHeightOverStrata(t *testing.T) {
	p := mustLoad(t, "a. b :- a. c :- b. d :- c, not z. e :- a, not z. e :- d. f :- e, c. f :- d, a.")
	wantIn(t, p, "c", 3, "0 3  0  1 0  2 1")
	wantIn(t, p, "d", 1, "1 4  0  1 0  2 1  3 2")
	wantIn(t, p, "e", 1, "1 4  0  1 0  2 1  4 0")
	wantIn(t, p, "f", 2, "1 5  0  1 0  2 1  4 0  6 3 2")
}

// Of the rule's nodes those whose row is least: by the order of all things, and
// by the first literal first.
func TestExplainLeastNodes(t *testing.T) {
	p := mustLoad(t, "p(b). p(a). q :- p(X). s :- p(X), p(Y), not p(c).")
	wantIn(t, p, "q", 2, "0 2  1  2 0")
	wantIn(t, p, "s", 1, "1 4  1  0  2 0  3 0 0")
	// the height stands ahead of the text
	p = mustLoad(t, "p(a) :- p(b). p(b). p(c). q :- p(X), not z.")
	wantIn(t, p, "q", 1, "1 4  1  2  0 0  3 0")
	// the stratum stands ahead of the height
	p = mustLoad(t, "a :- b. b. c :- not z. t(X) :- u(X), v(X). u(1) :- b. u(2). v(2) :- not z. v(1) :- not z.")
	wantIn(t, p, "t(1)", 2, "1 6  1  5  0 0  4 0  7  3 3 4")
	// first literal first: the row 0 3 is less than the row 1 2
	p = mustLoad(t, "l(a). l(b). r(c). r(d). m(a,d). m(b,c). q :- l(X), m(X,Y), r(Y). w :- r(Y), m(X,Y), l(X).")
	wantIn(t, p, "q", 2, "0 4  0  4  3  6 0 1 2")
	wantIn(t, p, "w", 2, "0 4  1  5  2  7 2 1 0")
	// what stands last in the text is first as a text
	p = mustLoad(t, "e(9,a). e(10,b). e(1,b). q(X) :- e(Y,X). q(b) :- e(10,b).")
	wantIn(t, p, "q(b)", 2, "0 2  2  3 0")
	wantIn(t, p, "q(a)", 2, "0 2  0  3 0")
}

// The numbers by which rows are less are those of all things, not those that
// the nodes have in the witness.
func TestExplainNumbersOfTheWitness(t *testing.T) {
	p := mustLoad(t, "p(a). p(b). p(c). q :- p(c), p(a). r :- q, p(b).")
	wantIn(t, p, "q", 2, "0 3  0  2  3 1 0")
	wantIn(t, p, "r", 3, "0 5  0  1  2  3 2 0  4 3 1")
	wantIn(t, p, "p(c)", 1, "0 1  2")
}

// A thing that is named twice is said once, and negative literals have no byte.
func TestExplainTwiceNamed(t *testing.T) {
	p := mustLoad(t, "p. q :- p, p, p. r :- q, p, q. s :- not z, r, not y. t :- not z.")
	wantIn(t, p, "q", 2, "0 2  0  1 0 0 0")
	wantIn(t, p, "r", 3, "0 3  0  1 0 0 0  2 1 0 1")
	wantIn(t, p, "s", 1, "1 4  0  1 0 0 0  2 1 0 1  3 2")
	wantIn(t, p, "t", 1, "1 4  0  1 0 0 0  2 1 0 1  4")
}

// Lower strata are said whole, needed or not; of its own stratum a thing has
// only what is needed; of later ones there is nothing.
func TestExplainStrata(t *testing.T) {
	p := mustLoad(t, "a. b. c :- a, not x. d :- not x. e :- d. f :- b, not c. g :- not f, e. h :- not f.")
	wantIn(t, p, "a", 1, "0 1  0")
	wantIn(t, p, "b", 1, "0 1  1")
	wantIn(t, p, "c", 1, "1 3  0  1  2 0")
	wantIn(t, p, "d", 1, "1 3  0  1  3")
	wantIn(t, p, "e", 2, "1 4  0  1  3  4 2")
	wantIn(t, p, "g", 1, "3 6  0  1  2 0  3  4 3  6 4")
	wantIn(t, p, "h", 1, "3 6  0  1  2 0  3  4 3  7")
	wantOut(t, p, "x", "1 2  0  1")
	wantOut(t, p, "f", "3 5  0  1  2 0  3  4 3")
}

// The order is that of the bytes of the texts, whatever the rules' order is.
func TestExplainOrder(t *testing.T) {
	p := mustLoad(t, "n(2). n(10). n(1). n(b). n(a1). n(a). n0. n1(z).")
	wantOut(t, p, "n(zz)", "1 8  2  1  0  5  4  3  6  7")
	p = mustLoad(t, "m(a1,a). m(a,b). m(a,a1). m(a,a). m(9,z). m(10,z).")
	wantOut(t, p, "m(zz,zz)", "1 6  5  4  3  2  1  0")
	p = mustLoad(t, "p10(a). p9(a). p(z). p2. pq(a). o(z) :- p2. b(z) :- not o(a).")
	wantOut(t, p, "o(a)", "1 6  2  0  3  1  4  5 2")
	wantOut(t, p, "b(a)", "2 7  2  0  3  1  4  5 2  6")
}

func TestExplainNothingFollowsFromItself(t *testing.T) {
	p := mustLoad(t, "p :- p. q :- r. r :- q. s(X) :- s(X). t :- not p, not q. u :- u. u :- t. t :- u.")
	for _, thing := range []string{"p", "q", "r", "s(a)"} {
		wantOut(t, p, thing, "1 0")
	}
	wantIn(t, p, "t", 1, "1 1  4")
	wantIn(t, p, "u", 2, "1 2  4  6 0")
}

// The rules stand in falling order, so that each node's rule is less than those
// of the nodes ahead of it.
func TestExplainLongChain(t *testing.T) {
	text := ""
	for c := byte('z'); c > 'a'; c-- {
		text += string(rune(c)) + " :- " + string(rune(c-1)) + ". "
	}
	want := "0 26  25"
	for i := range 25 {
		want += "  " + strconv.Itoa(24-i) + " " + strconv.Itoa(i)
	}
	wantIn(t, mustLoad(t, text+"a."), "z", 26, want)
	wantOut(t, mustLoad(t, text), "z", "1 0")
}

// As many variables as a rule can have, and some in the head.
func TestExplainWidestRule(t *testing.T) {
	p := mustLoad(t, "p(a,b,c,d). p(b,b,c,d). q(D,E,I,L) :- p(A,B,C,D), p(E,F,G,H), p(I,J,K,L).")
	wantIn(t, p, "q(d,a,a,d)", 2, "0 2  0  2 0 0 0")
	wantIn(t, p, "q(d,b,a,d)", 2, "0 3  0  1  2 0 1 0")
	wantIn(t, p, "q(d,b,b,d)", 2, "0 3  0  1  2 0 1 1")
	wantOut(t, p, "q(a,b,b,d)", "1 6  0  1  2 0 0 0  2 0 0 1  2 0 1 0  2 0 1 1")
}
