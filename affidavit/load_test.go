package affidavit

import (
	"regexp"
	"strings"
	"testing"

	"affidavit/api"
)

const example = "edge(a,b). edge(b,c). path(X,Y) :- edge(X,Y). path(X,Z) :- edge(X,Y), path(Y,Z). far(X) :- path(a,X), not edge(a,X)."

// wantLoad holds Load's whole answer against an error and a place.
func wantLoad(t *testing.T, text string, want api.Errno, place int) {
	t.Helper()
	p, e, at := Load(text)
	if e != want || at != place {
		t.Errorf("P3: Load(%q) = %d, %d, want %d, %d", text, e, at, want, place)
	}
	if (p != nil) != (e == api.OK) {
		t.Errorf("P1: Load(%q): error %d, and a program: %v", text, e, p != nil)
	}
}

func mustLoad(t *testing.T, text string) *Program {
	t.Helper()
	p, e, at := Load(text)
	if e != api.OK {
		t.Fatalf("P3: Load(%q) = %d, %d, want a program", text, e, at)
	}
	return p
}

func TestLoadGood(t *testing.T) {
	for _, s := range []string{
		"", " ", "\n \n", "p.", " p . ", "p.q.", "p:-q.", "p\n:-\nnot\nq\n.", example,
		"0.", "9(8,7).", "p(p,p,p,p).", "p :- p, p, p.", "p :- not a, not b, not c.",
		"abcdefgh(ABCDEFGH) :- q(ABCDEFGH).", "not1. nota. no. p(nots).", "p :- not not1.",
		"p(X) :- q(X,X,X,X).",
	} {
		wantLoad(t, s, api.OK, 0)
	}
}

func TestLoadLong(t *testing.T) {
	blanks := func(n int) string { return strings.Repeat(" ", n) }
	wantLoad(t, blanks(api.MaxText), api.OK, 0)
	wantLoad(t, blanks(api.MaxText-2)+"p.", api.OK, 0)
	wantLoad(t, blanks(api.MaxText-1)+"p", api.ErrSyntax, api.MaxText)
	wantLoad(t, blanks(api.MaxText+1), api.ErrLong, 0)
	wantLoad(t, "p."+blanks(api.MaxText-1), api.ErrLong, 0)
	wantLoad(t, strings.Repeat("p", 100000), api.ErrLong, 0)
}

func TestLoadNoToken(t *testing.T) {
	for s, at := range map[string]int{
		"abcdefghi.": 0, "p(a,abcdefghi).": 4, "p :- q, 123456789.": 8, "p(ABCDEFGHI).": 2, "  ABCDEFGHI": 2,
		"p\t.": 1, "p.\r\n": 2, "p(a).\x00": 5, "é.": 0, "p(é).": 2, "p:": 1, "p : - q.": 2, "p :q.": 2, "p -: q.": 2,
		"p; q.": 1, "p(a_b).": 3, "p(\"a\").": 2, "% p.": 0, "p.\xff": 2, "p(a}.": 3,
	} {
		wantLoad(t, s, api.ErrSyntax, at)
	}
}

func TestLoadMisplacedToken(t *testing.T) {
	for s, at := range map[string]int{
		".": 0, "(": 0, ",": 0, ":-": 0, "X.": 0, "not p.": 0, "not(a).": 0, "p..": 2, "p, q.": 1, "p q.": 2, "p X.": 2,
		"p()": 2, "p(a b)": 4, "p(a,)": 4, "p(,a)": 2, "p(not).": 2, "p(q(a)).": 3, "p(a)(b).": 4, "p(a) b.": 5, "p(a.": 3,
		"p :- .": 5, "p :- q, .": 8, "p :- X.": 5, "p :- not.": 8, "p :- not X.": 9, "p :- not not q.": 9, "p :- not(q).": 8,
		"p :- q r.": 7, "p :- q :- r.": 7, "p :- q) .": 6, "p(aX).": 3, "p(Xa).": 3, "p(X1).": 3, "p :- aX.": 6, "pX.": 1, "p :- notX.": 8,
	} {
		wantLoad(t, s, api.ErrSyntax, at)
	}
}

func TestLoadEndsTooSoon(t *testing.T) {
	for _, s := range []string{
		"p", "p  ", "p\n", "p(", "p(a", "p(a,", "p(a) ", "p :-", "p :- q", "p :- q,", "p :- not", "p :- not q", "p :- q(X", "p. q",
		"p(a,b,c,d,", "p :- a, b, c, ",
	} {
		wantLoad(t, s, api.ErrSyntax, len(s))
	}
}

func TestLoadTooMany(t *testing.T) {
	for s, at := range map[string]int{
		"p(a,b,c,d,e).": 10, "p(a,b,c,d, E).": 11, "p(a,b,c,d,).": 10, "p(a,b,c,d,,": 10, "p(a,b,c,d e": 10,
		"p :- a, b, c, d.": 14, "p :- a, b, c, not d.": 14, "p :- a, b, c, .": 14, "p :- a, b, not c, d(": 18, "p :- q(a,b,c,d,e).": 15,
		"p :- a, b, c d.": 13,
	} {
		wantLoad(t, s, api.ErrSyntax, at)
	}
	full := strings.Repeat("p. ", api.MaxRules)
	wantLoad(t, full, api.OK, 0)
	wantLoad(t, full+"p.", api.ErrSyntax, len(full))
	wantLoad(t, full+" q(a", api.ErrSyntax, len(full)+1)
	wantLoad(t, full+".", api.ErrSyntax, len(full))
}

func TestLoadArity(t *testing.T) {
	for s, at := range map[string]int{
		"p(a). p.": 6, "p. p(a).": 3, "p :- p(a).": 5, "p :- q(a), not q.": 15, "p(X) :- q(X), not p(X,X).": 18,
		"p. q. q(a). p(a).": 6, "p(a). p(a,b). p. p(a).": 6, "q(a) :- r(a). p(a). r(a,b). p.": 20,
	} {
		wantLoad(t, s, api.ErrArity, at)
	}
	wantLoad(t, "p(p). q(p,q). r(q,p,X) :- q(X,p).", api.OK, 0)
}

func TestLoadUnsafe(t *testing.T) {
	for s, at := range map[string]int{
		"p(X).": 2, "p(a, X).": 5, "p(X) :- q.": 2, "p(X) :- not q(X).": 2, "p(X,Y) :- q(X).": 4, "p(Y,X) :- q(X).": 2,
		"p :- not q(X).": 11, "p(X) :- q(X), not r(X,Y).": 22, "p(X) :- not r(X,Y), q(X).": 16, "p(Y) :- not r(X,Y), q(X).": 2,
		"p :- q(X), not r(Y), not s(Z).": 17, "p(X) :- q(X). r(X).": 16, "p(X) :- q(Y). q(Z).": 2, "p(X) :- q(x).": 2, "p(X) :- q(XX).": 2,
	} {
		wantLoad(t, s, api.ErrUnsafe, at)
	}
	wantLoad(t, "p(X) :- not r(X), q(X).", api.OK, 0)
	wantLoad(t, "p(x) :- not r(x), q(X).", api.OK, 0)
	wantLoad(t, "p(X,Y) :- q(X), r(Y), not s(Y,X).", api.OK, 0)
}

func TestLoadCycle(t *testing.T) {
	for s, at := range map[string]int{
		"p :- not p.": 5, "p :- not q. q :- not p.": 5, "p :- not\n p.": 5, "p :- q. q :- r. r :- not p.": 21,
		"p :- not q. q :- p.": 5, "p :- not x, not q, not p. q :- r. r :- not s. s :- p.": 12,
		"p :- not q. q :- r. r :- q, not s. s :- q.": 28, "p(X) :- e(X), not q(X). q(a) :- p(b).": 14,
		"p :- q. q :- p. p :- r, not q.": 24, "p(a) :- not p(b).": 8,
	} {
		wantLoad(t, s, api.ErrCycle, at)
	}
	wantLoad(t, "p :- q, not r. q :- r. r :- q.", api.OK, 0)
	wantLoad(t, "p :- p, not q. q :- q, not r.", api.OK, 0)
	wantLoad(t, "p :- not q, not q. s :- p, not q.", api.OK, 0)
}

// The text tells one error, although later ones of a lesser rank stand ahead of it.
func TestLoadWhichError(t *testing.T) {
	const cycle, unsafe, arity = "c :- not c. ", "u(X). ", "a. a(b). "
	wantLoad(t, cycle+unsafe+arity+"?", api.ErrSyntax, len(cycle+unsafe+arity))
	wantLoad(t, cycle+unsafe+arity, api.ErrArity, len(cycle+unsafe)+3)
	wantLoad(t, cycle+unsafe, api.ErrUnsafe, len(cycle)+2)
	wantLoad(t, cycle, api.ErrCycle, 5)
	wantLoad(t, cycle+unsafe+arity+"?"+strings.Repeat(" ", api.MaxText), api.ErrLong, 0)
	wantLoad(t, "a(X) :- not a(X).", api.ErrUnsafe, 2)
	wantLoad(t, "a(X) :- not a.", api.ErrArity, 12)
}

// What a text is can be told by a pattern of its tokens, a letter each: n is a
// name, v a variable, t the word `not`, w the sign `:-`, and ? is no token.
var (
	strict  = textPattern(api.MaxTerms, api.MaxBody)
	relaxed = textPattern(api.MaxTerms+1, api.MaxBody+1)
	spell   = strings.NewReplacer("n", "p ", "v", "X ", "t", "not ", "(", "( ", ")", ") ", ",", ", ", ".", ". ", "w", ":- ", "?", "? ")
)

func textPattern(terms, body int) *regexp.Regexp {
	times := func(n int) string { return "{0," + string(rune('0'+n-1)) + "}" }
	atom := `n(\([nv](,[nv])` + times(terms) + `\))?`
	literal := `t?` + atom
	return regexp.MustCompile(`^(` + atom + `(w` + literal + `(,` + literal + `)` + times(body) + `)?\.)*$`)
}

func completes(pattern *regexp.Regexp, tokens string) bool {
	for _, rest := range []string{"", ".", "n.", ").", "n)."} {
		if pattern.MatchString(tokens + rest) {
			return true
		}
	}
	return false
}

// begins tells whether tokens are let: a `,` is, where one more would be too many.
func begins(tokens string) bool {
	return completes(strict, tokens) || strings.HasSuffix(tokens, ",") && completes(relaxed, tokens)
}

func TestLoadEveryBeginning(t *testing.T) {
	seen := 0
	var walk func(tokens string)
	walk = func(tokens string) {
		seen++
		text := spell.Replace(tokens)
		_, e, at := Load(text)
		switch {
		case strict.MatchString(tokens) && e == api.ErrSyntax:
			t.Errorf("P3: Load(%q) = ErrSyntax, %d", text, at)
		case !strict.MatchString(tokens) && (e != api.ErrSyntax || at != len(text)):
			t.Errorf("P3: Load(%q) = %d, %d, want ErrSyntax at its end", text, e, at)
		}
		for _, next := range "nvt(),.w?" {
			longer := tokens + string(next)
			if !begins(longer) {
				wantLoad(t, spell.Replace(longer), api.ErrSyntax, len(text))
				wantLoad(t, spell.Replace(longer+"."), api.ErrSyntax, len(text))
			} else if len(longer) <= 13 {
				walk(longer)
			}
		}
	}
	walk("")
	if seen < 1000 {
		t.Errorf("only %d beginnings were tried", seen)
	}
	t.Logf("%d beginnings", seen)
}
