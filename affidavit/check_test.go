package affidavit

import (
	"slices"
	"strconv"
	"strings"
	"testing"

	"affidavit/api"
)

// wantCheck holds Check's answer against an expected one, and the bytes and
// their spare room against what they were.
func wantCheck(t *testing.T, text, thing string, want int, witness string) {
	t.Helper()
	list := bytesOf(t, witness)
	room := append(slices.Clone(list), 7, 7, 7, 7)
	was := slices.Clone(room)
	if v := Check(text, thing, room[:len(list)]); v != want {
		t.Errorf("P8: Check(%q, %q, %s) = %d, want %d", text, thing, witness, v, want)
	}
	if !slices.Equal(room, was) {
		t.Errorf("P2: Check(%q, %q, %s) writes into the witness", text, thing, witness)
	}
}

// The bytes that Explain tells of the example.
const (
	whyPath = "0 4  0  1  2 1  3 0 2"
	whyFar  = "1 6  0  1  2 0  2 1  3 0 3  4 4"
	whyAll  = "2 6  0  1  2 0  2 1  3 0 3  4 4"
	whyNone = "1 5  0  1  2 0  2 1  3 0 3"
)

func TestCheckExample(t *testing.T) {
	for _, c := range []struct {
		witness     string
		in, out, no []string
	}{
		{whyPath,
			[]string{"edge(a,b)", "edge(b,c)", "path(b,c)", "path(a,c)", " path\n( a , c ) "},
			[]string{"owl", "owl(a)", "a", "edg(a,b)"},
			[]string{"path(a,b)", "path(c,a)", "edge(a,c)", "far(c)", "far(b)"}},
		{whyFar,
			[]string{"edge(a,b)", "path(a,b)", "path(a,c)", "far(c)"},
			[]string{"owl", "edge(a,c)", "path(c,a)", "path(zz,zz)"},
			[]string{"far(a)", "far(b)", "far(zz)"}},
		{whyAll,
			[]string{"edge(a,b)", "path(a,c)", "far(c)"},
			[]string{"owl", "edge(a,c)", "path(c,a)", "far(a)", "far(b)", "far(zz)"},
			nil},
		{whyNone,
			[]string{"edge(a,b)", "path(a,c)"},
			[]string{"owl", "edge(a,c)", "path(c,a)"},
			[]string{"far(b)", "far(c)"}},
		{"0 0", nil, []string{"owl", "owl(a,b,c,d)"}, []string{"edge(a,b)", "edge(a,c)", "path(a,c)", "path(c,a)", "far(c)", "far(b)"}},
	} {
		for _, thing := range c.in {
			wantCheck(t, example, thing, api.In, c.witness)
		}
		for _, thing := range c.out {
			wantCheck(t, example, thing, api.Out, c.witness)
		}
		for _, thing := range c.no {
			wantCheck(t, example, thing, api.No, c.witness)
		}
	}
}

// The nodes may stand in any order in which what is named stands ahead, and may
// have any rule and any nodes that say the thing: a right witness need not be
// the one that Explain tells.
func TestCheckOtherWitnesses(t *testing.T) {
	wantCheck(t, example, "path(a,c)", api.In, "0 4  1  2 0  0  3 2 1")
	wantCheck(t, example, "far(c)", api.In, "1 6  1  2 0  0  3 2 1  4 3  2 2")
	wantCheck(t, example, "far(b)", api.Out, "2 6  1  2 0  0  3 2 1  4 3  2 2")
	wantCheck(t, "p. p. q :- p. q.", "q", api.In, "0 2  1  2 0")
	wantCheck(t, "p. p. q :- p. q.", "q", api.In, "0 1  3")
	wantCheck(t, "p. p. q :- p. q.", "q", api.In, "1 2  3  1")
	wantCheck(t, "p(a). p(b). q :- p(X), p(Y).", "q", api.In, "0 3  1  0  2 1 0")
	// things of later strata are said, although K tells of none of them
	wantCheck(t, "a. b :- not z. c :- b.", "a", api.In, "1 3  1  2 0  0")
}

func TestCheckNoBytes(t *testing.T) {
	for _, text := range []string{"", "p.", example} {
		for _, thing := range []string{"p", "owl", "path(a,c)"} {
			for _, list := range [][]byte{nil, {}, {0}, {1}} {
				if v := Check(text, thing, list); v != api.No {
					t.Errorf("P8: Check(%q, %q, %v) = %d", text, thing, list, v)
				}
			}
		}
	}
}

func TestCheckBytesTooFewOrTooMany(t *testing.T) {
	for witness, things := range map[string][]string{
		whyPath: {"path(a,c)", "edge(a,b)", "owl"},
		whyFar:  {"far(c)", "edge(a,c)", "owl"},
		whyAll:  {"far(b)", "far(c)", "owl"},
		"0 0":   {"owl"},
	} {
		whole := strings.Fields(witness)
		for _, thing := range things {
			for n := range whole {
				wantCheck(t, example, thing, api.No, strings.Join(whole[:n], " "))
			}
			for _, more := range []string{" 0", " 1", " 255", " 0 0", strings.Repeat(" 0", 1000)} {
				wantCheck(t, example, thing, api.No, witness+more)
			}
		}
	}
	// the last node's rule has more literals, or fewer, than there are bytes
	wantCheck(t, "p. q :- p. r :- p, q. s :- p, p, p.", "p", api.No, "0 2  0  1")
	wantCheck(t, "p. q :- p. r :- p, q. s :- p, p, p.", "p", api.No, "0 2  0  3 0 0")
	wantCheck(t, "p. q :- p. r :- p, q. s :- p, p, p.", "p", api.No, "0 2  0  1 0 0")
	wantCheck(t, "p. q :- p. r :- p, q. s :- p, p, p.", "p", api.In, "0 2  0  3 0 0 0")
	// a negative literal has no byte
	wantCheck(t, "p. q :- not r, p, not s.", "q", api.In, "1 2  0  1 0")
	wantCheck(t, "p. q :- not r, p, not s.", "q", api.No, "1 2  0  1 0 0")
}

// N tells just how many nodes there are.
func TestCheckNumberOfNodes(t *testing.T) {
	for n := range 256 {
		want := api.No
		if n == 4 {
			want = api.In
		}
		wantCheck(t, example, "path(a,c)", want, "0 "+strconv.Itoa(n)+"  0  1  2 1  3 0 2")
		want = api.No
		if n == 0 {
			want = api.Out
		}
		wantCheck(t, example, "owl", want, "0 "+strconv.Itoa(n))
	}
}

// fullNodes are nodes that say all things of the text full.
func fullNodes() string {
	nodes := "  0  1"
	for i := range 16 {
		nodes += "  " + strconv.Itoa(3+i)
	}
	for a := range 2 {
		for b := range 16 {
			nodes += "  2 " + strconv.Itoa(a) + " " + strconv.Itoa(2+b)
		}
	}
	return nodes
}

func TestCheckMostNodes(t *testing.T) {
	text := full("")
	for _, k := range []string{"0", "1"} {
		wantCheck(t, text, "c(2,p)", api.In, k+" 50"+fullNodes())
		wantCheck(t, text, "a(1)", api.In, k+" 50"+fullNodes())
		wantCheck(t, text, "owl", api.Out, k+" 50"+fullNodes())
	}
	wantCheck(t, text, "c(3,p)", api.Out, "1 50"+fullNodes())
	wantCheck(t, text, "c(3,p)", api.No, "0 50"+fullNodes())

	// one node more, which is right but for there being too many
	text = strings.Replace(full(""), "b(p).", "b(p). z.", 1)
	for _, k := range []string{"0", "1"} {
		for _, thing := range []string{"z", "a(1)", "c(2,p)", "c(3,p)", "owl"} {
			wantCheck(t, text, thing, api.No, k+" 51"+fullNodes()+"  19")
		}
	}
	wantCheck(t, text, "a(1)", api.In, "0 50"+fullNodes())
	wantCheck(t, text, "a(1)", api.No, "1 50"+fullNodes())
	for _, n := range []int{51, 64, 128, 255} {
		wantCheck(t, "p.", "p", api.No, "0 "+strconv.Itoa(n)+strings.Repeat(" 0", n))
		wantCheck(t, "p.", "owl", api.No, "0 "+strconv.Itoa(n)+strings.Repeat(" 0", n))
	}
}

// The nodes say all that follows, so that each stratum is closed.
func TestCheckNumberOfStrata(t *testing.T) {
	for _, c := range []struct {
		text, nodes string
		strata      int
	}{
		{"", " 0", 0},
		{"p.", " 1  0", 1},
		{"p :- q.", " 0", 1},
		{"p :- not q.", " 1  0", 2},
		{"p :- not q. q.", " 1  1", 2},
		{example, " 6  0  1  2 0  2 1  3 0 3  4 4", 2},
		{"a. b :- not a. c :- not b. d :- not c.", " 2  0  2", 4},
	} {
		for k := range 256 {
			switch {
			case k == c.strata:
				wantCheck(t, c.text, "owl", api.Out, strconv.Itoa(k)+c.nodes)
			case k > c.strata:
				wantCheck(t, c.text, "owl", api.No, strconv.Itoa(k)+c.nodes)
			}
		}
	}
	wantCheck(t, "", "p", api.Out, "0 0")
	wantCheck(t, "", "p(a,b,c,d)", api.Out, "0 0")
	wantCheck(t, " \n ", "p", api.Out, "0 0")
	wantCheck(t, "", "p", api.No, "1 0")
	wantCheck(t, "", "p", api.No, "0 1  0")
	wantCheck(t, "", "p", api.No, "0 1")
}

func TestCheckRuleThatIsNotThere(t *testing.T) {
	for n := range 256 {
		want := api.No
		if n == 2 {
			want = api.In
		}
		wantCheck(t, "p. q. r.", "r", want, "0 1  "+strconv.Itoa(n))
		want = api.No
		if n == 0 {
			want = api.In
		}
		wantCheck(t, "p.", "p", want, "0 1  "+strconv.Itoa(n))
		wantCheck(t, "", "p", api.No, "0 1  "+strconv.Itoa(n))
		if n >= 5 {
			wantCheck(t, example, "edge(a,b)", api.No, "0 2  0  "+strconv.Itoa(n))
			wantCheck(t, example, "owl", api.No, "0 2  0  "+strconv.Itoa(n))
		}
	}
	// as many rules as there may be
	text := strings.Repeat("p.", api.MaxRules-1) + "q."
	wantCheck(t, text, "q", api.In, "0 1  29")
	wantCheck(t, text, "q", api.No, "0 1  30")
	wantCheck(t, text, "owl", api.No, "0 1  30")
}

func TestCheckNodeThatIsNotAhead(t *testing.T) {
	wantCheck(t, example, "path(b,c)", api.In, "0 2  1  2 0")
	wantCheck(t, example, "path(b,c)", api.No, "0 2  1  2 1")
	wantCheck(t, example, "path(b,c)", api.No, "0 2  2 1  1")
	wantCheck(t, example, "path(b,c)", api.No, "0 1  2 0")
	for n := 1; n < 256; n++ {
		wantCheck(t, example, "path(b,c)", api.No, "0 2  1  2 "+strconv.Itoa(n))
		wantCheck(t, example, "edge(b,c)", api.No, "0 2  1  2 "+strconv.Itoa(n))
	}
	// things that would hold each other up, or themselves
	wantCheck(t, "p :- p.", "p", api.No, "0 1  0 0")
	wantCheck(t, "p :- q. q :- p.", "p", api.No, "0 2  0 1  1 0")
	wantCheck(t, "p :- q. q :- p.", "p", api.Out, "1 0")
	wantCheck(t, "p :- q. q :- p. q.", "p", api.In, "0 2  2  0 0")
	wantCheck(t, "p :- q. q :- p. q.", "p", api.No, "0 2  0 1  2")
}

func TestCheckLiteralThatDoesNotMatch(t *testing.T) {
	text := "e(a,b). e(b,b). e(b,c). f(a,b). l(X) :- e(X,X). c(X,Z) :- e(X,Y), e(Y,Z). a(X) :- e(a,X). m(X) :- e(X,Y), f(X,Y)."
	wantCheck(t, text, "l(b)", api.In, "0 2  1  4 0")
	wantCheck(t, text, "l(a)", api.No, "0 2  0  4 0")
	wantCheck(t, text, "l(b)", api.No, "0 2  0  4 0")
	wantCheck(t, text, "owl", api.No, "0 2  0  4 0")
	wantCheck(t, text, "c(a,c)", api.In, "0 3  0  2  5 0 1")
	wantCheck(t, text, "c(a,b)", api.No, "0 3  0  2  5 0 0")
	wantCheck(t, text, "c(b,b)", api.No, "0 3  0  2  5 1 0")
	wantCheck(t, text, "c(b,b)", api.In, "0 2  1  5 0 0")
	// a name that is another one
	wantCheck(t, text, "a(b)", api.In, "0 2  0  6 0")
	wantCheck(t, text, "a(b)", api.No, "0 2  1  6 0")
	wantCheck(t, text, "owl", api.No, "0 2  1  6 0")
	// another predicate with the same terms
	wantCheck(t, text, "m(a)", api.In, "0 3  0  3  7 0 1")
	wantCheck(t, text, "m(a)", api.No, "0 3  0  3  7 1 0")
	wantCheck(t, text, "m(a)", api.No, "0 3  0  3  7 0 0")
	wantCheck(t, text, "a(b)", api.No, "0 2  3  6 0")
	wantCheck(t, "p. q. r :- p.", "r", api.No, "0 2  1  2 0")
	wantCheck(t, "p. q(a). r :- q(X).", "r", api.No, "0 2  0  2 0")
	// as many variables as a rule can have, and the last is the first
	wide := "p(a,b,c,d). p(d,c,b,a). q(A,L) :- p(A,B,C,D), p(E,F,G,H), p(I,J,K,L). r(A) :- p(A,B,C,D), p(E,F,G,H), p(I,J,K,A)."
	wantCheck(t, wide, "q(a,a)", api.In, "0 3  0  1  2 0 0 1")
	wantCheck(t, wide, "r(a)", api.In, "0 3  0  1  3 0 0 1")
	wantCheck(t, wide, "r(a)", api.No, "0 3  0  1  3 0 1 0")
}

func TestCheckSaidTwice(t *testing.T) {
	for _, thing := range []string{"p", "q", "owl", "s"} {
		text := "p. p. q :- p. q. s."
		for _, witness := range []string{"0 2  0  0", "0 2  0  1", "0 3  0  2 0  2 0", "0 3  0  2 0  3", "0 3  3  0  2 1", "1 4  0  3  4  1", "0 4  0  3  4  1"} {
			wantCheck(t, text, thing, api.No, witness)
		}
	}
	wantCheck(t, "p. p. q :- p. q. s.", "s", api.In, "1 3  0  3  4")
	wantCheck(t, "p(a). p(b). q :- p(X).", "q", api.No, "0 4  0  1  2 0  2 1")
	wantCheck(t, "p(a). p(b). q :- p(X).", "q", api.In, "0 3  0  1  2 1")
}

func TestCheckNegativeOfStratumNotLessThanK(t *testing.T) {
	text := "a. b :- a, not c. c :- not d. d :- a, not e. f :- not b, not g."
	// the strata: a, e and g 0; d 1; c 2; b 3; f 4
	wantCheck(t, text, "d", api.No, "0 2  0  3 0")
	wantCheck(t, text, "d", api.In, "1 2  0  3 0")
	wantCheck(t, text, "d", api.In, "2 2  0  3 0")
	for _, k := range []string{"0", "1", "2"} {
		wantCheck(t, text, "b", api.No, k+" 3  0  3 0  1 0")
		wantCheck(t, text, "a", api.No, k+" 3  0  3 0  1 0")
		wantCheck(t, text, "owl", api.No, k+" 3  0  3 0  1 0")
	}
	for _, k := range []string{"3", "4", "5"} {
		wantCheck(t, text, "b", api.In, k+" 3  0  3 0  1 0")
	}
	// K is above the one negative literal, and not above the other
	wantCheck(t, text, "f", api.No, "1 2  0  4")
	wantCheck(t, text, "f", api.No, "3 3  0  3 0  4")
	wantCheck(t, "p :- not q, not r. q :- not s. s.", "p", api.No, "1 2  2  0")
	wantCheck(t, "p :- not q, not r. q :- not s. s.", "p", api.In, "2 2  2  0")
	wantCheck(t, "p :- not r, not q. q :- not s. s.", "p", api.No, "1 2  2  0")
	// the literal is of no rule's head
	wantCheck(t, "p :- not q.", "p", api.In, "1 1  0")
	wantCheck(t, "p :- not q.", "p", api.No, "0 1  0")
}

// The nodes stand ahead of the one that denies what they say, or behind it.
func TestCheckNegativeThatIsSaid(t *testing.T) {
	for _, witness := range []string{"1 2  0  1", "1 2  1  0", "2 2  0  1", "2 2  1  0"} {
		for _, thing := range []string{"q", "p", "owl"} {
			wantCheck(t, "p. q :- not p.", thing, api.No, witness)
		}
	}
	text := "p(a). p(b). r(b). q(X) :- p(X), not r(X)."
	wantCheck(t, text, "q(a)", api.In, "1 4  0  1  2  3 0")
	wantCheck(t, text, "q(b)", api.No, "1 4  0  1  2  3 1")
	wantCheck(t, text, "q(b)", api.No, "1 4  0  1  3 1  2")
	wantCheck(t, text, "q(b)", api.Out, "2 4  0  1  2  3 0")
	// the second of two negative literals
	wantCheck(t, "p. q :- not s, not p.", "q", api.No, "1 2  0  1")
	wantCheck(t, "p. q :- not p, not s.", "q", api.No, "1 2  0  1")
}

func TestCheckNotClosed(t *testing.T) {
	// a fact that is not said
	wantCheck(t, "p. q.", "r", api.No, "1 1  0")
	wantCheck(t, "p. q.", "p", api.No, "1 1  0")
	wantCheck(t, "p. q.", "p", api.In, "0 1  0")
	wantCheck(t, "p. q.", "p", api.In, "1 2  0  1")
	wantCheck(t, example, "far(b)", api.No, "1 0")
	wantCheck(t, example, "far(b)", api.No, "2 0")
	// what comes of a rule is not said: of one way, and of a later round
	wantCheck(t, example, "path(c,a)", api.No, "1 4  0  1  2 0  2 1")
	wantCheck(t, example, "path(c,a)", api.No, "1 3  0  1  2 0")
	wantCheck(t, example, "path(c,a)", api.No, "1 2  0  1")
	wantCheck(t, example, "path(c,a)", api.Out, whyNone)
	wantCheck(t, "p(a). p(b). q(X,Y) :- p(X), p(Y).", "q(a,c)", api.No, "1 5  0  1  2 0 0  2 0 1  2 1 0")
	wantCheck(t, "p(a). p(b). q(X,Y) :- p(X), p(Y).", "q(a,c)", api.Out, "1 6  0  1  2 0 0  2 0 1  2 1 0  2 1 1")
	// what comes of a rule with a negative literal
	wantCheck(t, "p. q :- not r.", "q", api.No, "2 1  0")
	wantCheck(t, "p. q :- not r.", "q", api.No, "1 1  0")
	wantCheck(t, "p. q :- not r.", "r", api.Out, "1 1  0")
	wantCheck(t, example, "far(c)", api.No, "2 5  0  1  2 0  2 1  3 0 3")
	wantCheck(t, example, "owl", api.No, "2 5  0  1  2 0  2 1  3 0 3")
	// the negative literal is said, so that nothing comes of the rule
	wantCheck(t, "p. q :- not p.", "q", api.Out, "2 1  0")
	// a lower stratum is not closed, although that of the thing is
	wantCheck(t, "p. q :- not r. s.", "q", api.No, "1 2  0  1")
	wantCheck(t, "a. b :- not a. c :- not b.", "c", api.No, "2 0")
	wantCheck(t, "a. b :- not a. c :- not b.", "c", api.No, "2 1  2")
	wantCheck(t, "a. b :- not a. c :- not b.", "c", api.No, "3 1  1")
	wantCheck(t, "a. b :- not a. c :- not b.", "b", api.No, "2 1  1")
	// a stratum that is not less than K need not be closed
	wantCheck(t, "a. b :- not z. c :- not z.", "b", api.In, "1 2  0  1")
	wantCheck(t, "a. b :- not z. c :- not z.", "b", api.No, "2 2  0  1")
	wantCheck(t, "a. b :- not z. c :- not z.", "c", api.No, "1 2  0  1")
}

func TestCheckPredicateNotInText(t *testing.T) {
	for _, thing := range []string{"owl", "owl(a)", "owl(a,b,c,d)", "a", "0"} {
		for _, witness := range []string{"0 0", "0 1  0", whyPath, whyFar, whyAll, whyNone} {
			wantCheck(t, example, thing, api.Out, witness)
		}
		for _, witness := range []string{"", "0", "1 0", "3 0", "0 1", "0 2  0  0", "0 0 0", "2 5  0  1  2 0  2 1  3 0 3"} {
			wantCheck(t, example, thing, api.No, witness)
		}
	}
	// a name of a term is no predicate, but that of a body is one
	wantCheck(t, "p(q) :- r(s).", "q", api.Out, "0 0")
	wantCheck(t, "p(q) :- r(s).", "r(s)", api.No, "0 0")
	wantCheck(t, "p(q) :- r(s).", "r(s)", api.Out, "1 0")
	wantCheck(t, "p :- not r.", "r", api.No, "0 0")
}

// In each case the witness is right, and would show it of a thing.
func TestCheckNoThing(t *testing.T) {
	for _, thing := range []string{
		"far(X)", "far(ABCDEFGH)", "path(a,X)", "path(X,c)", "path(X,X)", "owl(X)", "owl(a,b,c,X)", "owl(X,a,b,c)",
		"edge", "edge(a)", "edge(a,b,c)", "far", "far(c,c)", "path(a,c,c,c)",
		"", " ", ".", "X", "not", "not far(b)", "far(c).", "far(c) far(c)", "far(c), far(c)", "far(c) :- far(c)", "far(", "far(c", "far(c,)",
		"far()", "far(far(c))", "far(not)", "owl(a,b,c,d,e)", "abcdefghi", "far(abcdefghi)", "far\t(c)", "far(c)\x00", "\xff", "owl :-",
		strings.Repeat("(", 100000), strings.Repeat("a", 100000),
	} {
		wantCheck(t, example, thing, api.No, whyAll)
		wantCheck(t, example, thing, api.No, "0 0")
		wantUnexplained(t, mustLoad(t, example), thing, api.MaxAtoms, api.ErrAsk)
	}
	wantCheck(t, "", "owl(X)", api.No, "0 0")
	wantCheck(t, "", "", api.No, "0 0")
}

func TestCheckTextThatIsRefused(t *testing.T) {
	for text, want := range map[string]api.Errno{
		"p. q" + strings.Repeat(" ", api.MaxText-4) + ".": api.ErrLong,
		"p. q":                                api.ErrSyntax,
		"p. q(":                               api.ErrSyntax,
		"p. ?":                                api.ErrSyntax,
		"p. p(a).":                            api.ErrArity,
		"p. q(X).":                            api.ErrUnsafe,
		"p. q(X) :- not r(X).":                api.ErrUnsafe,
		"p. q :- not q.":                      api.ErrCycle,
		"p. q :- not r. r :- q.":              api.ErrCycle,
		strings.Repeat("p. ", api.MaxRules+1): api.ErrSyntax,
	} {
		_, e, _ := Load(text)
		if e != want {
			t.Errorf("P3: Load(%q) = %d, want %d", text, e, want)
		}
		for _, thing := range []string{"p", "owl", "q", ""} {
			for _, witness := range []string{"", "0 0", "0 1  0", "1 1  0"} {
				wantCheck(t, text, thing, api.No, witness)
			}
		}
	}
	longest := "p. q" + strings.Repeat(" ", api.MaxText-5) + "."
	wantCheck(t, longest, "q", api.In, "0 1  1")
	wantCheck(t, strings.Repeat("p. ", api.MaxRules), "p", api.In, "1 1  29")
}

// A text that makes Check go through as many ways as can be: it ends soon.
func TestCheckManyWays(t *testing.T) {
	text := "d(a).d(b).d(c).d(d).d(e).d(f).q(X,Y):-d(X),d(Y)."
	for range 23 {
		text += "d(a):-q(A,B),q(C,D),q(E,F)."
	}
	nodes := "  0  1  2  3  4  5"
	for a := range 6 {
		for b := range 6 {
			nodes += "  6 " + strconv.Itoa(a) + " " + strconv.Itoa(b)
		}
	}
	wantCheck(t, text, "d(g)", api.Out, "1 42"+nodes)
	wantCheck(t, text, "q(f,f)", api.In, "1 42"+nodes)
}
