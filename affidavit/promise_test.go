package affidavit

import (
	"reflect"
	"slices"
	"strings"
	"testing"

	"affidavit/api"
)

// tryText loads and tells a text, and holds the answers against
// what is so of every text.
func tryText(t *testing.T, text string) {
	t.Helper()
	p, e, at := Load(text)
	if (p != nil) != (e == api.OK) {
		t.Fatalf("P1: Load(%q): error %d, and a program: %v", text, e, p != nil)
	}
	if at < 0 || at > len(text) || at != 0 && e == api.OK {
		t.Fatalf("P3: Load(%q): error %d, place %d", text, e, at)
	}
	if p == nil {
		wantCheck(t, text, "owl", api.No, "0 0")
		return
	}
	wantCheck(t, text, "owl", api.Out, "0 0")
	for _, limit := range []int{1, api.MaxAtoms} {
		l, e := p.Query("p(X)", limit)
		if len(l) != 0 && e != api.OK || len(l) > limit {
			t.Fatalf("P6: of %q Query = %q, %d", text, l, e)
		}
		tryWhy(t, p, text, "p", limit)
		tryWhy(t, p, text, "p(a)", limit)
	}
	printed, strata := p.Print(), p.Strata()
	if len(printed) > api.MaxText {
		return
	}
	again := mustLoad(t, printed)
	if again.Print() != printed || !slices.Equal(again.Strata(), strata) {
		t.Fatalf("P4: %q loaded again is another program than %q", printed, text)
	}
}

// tryWhy explains a thing, holds the answer against what is so of every one, and
// checks it by the program's text.
func tryWhy(t *testing.T, p *Program, text, thing string, limit int) {
	t.Helper()
	y, e := p.Explain(thing, limit)
	list, other := p.Query(thing, limit)
	if e == api.ErrAsk {
		wantUnexplained(t, p, thing, limit, api.ErrAsk)
		wantCheck(t, text, thing, api.No, "0 0")
		return
	}
	if e != other {
		t.Fatalf("P7: Explain(%q, %d) = error %d, Query = error %d", thing, limit, e, other)
	}
	if e != api.OK {
		wantUnexplained(t, p, thing, limit, e)
		return
	}
	if (y.Verdict == api.In) != (len(list) == 1) || (y.Verdict == api.Out) != (len(list) == 0) || (y.Height > 0) != (y.Verdict == api.In) {
		t.Fatalf("P7: Explain(%q, %d) = %+v, Query = %q", thing, limit, y, list)
	}
	if len(y.Witness) < 2 || int(y.Witness[1]) > limit {
		t.Fatalf("P7: Explain(%q, %d) = %+v", thing, limit, y)
	}
	if v := Check(text, thing, y.Witness); v != y.Verdict {
		t.Fatalf("P9: Check(%q, %q, %v) = %d, want %d", text, thing, y.Witness, v, y.Verdict)
	}
}

func TestNoTextPanics(t *testing.T) {
	for a := range 256 {
		for b := range 256 {
			tryText(t, string([]byte{byte(a), byte(b)}))
			tryText(t, "p"+string([]byte{byte(a), byte(b)}))
			tryText(t, "p(X):-q(X)"+string([]byte{byte(a), byte(b)}))
		}
	}
	for i := range example {
		tryText(t, example[:i])
		tryText(t, example[i:])
		tryText(t, example[:i]+example[i+1:])
		for c := range 256 {
			tryText(t, example[:i]+string([]byte{byte(c)})+example[i+1:])
			tryText(t, example[:i]+string([]byte{byte(c)})+example[i:])
		}
	}
}

// Rows of a few bytes that matter, all of them up to a length.
func TestNoShortTextPanics(t *testing.T) {
	const bytes = "pX(),. :-"
	var walk func(text string)
	walk = func(text string) {
		tryText(t, text)
		if len(text) == 5 {
			return
		}
		for i := range len(bytes) {
			walk(text + bytes[i:i+1])
		}
	}
	walk("")
}

func TestWidestTexts(t *testing.T) {
	for _, unit := range []string{"p.", "p:-q.", "p:-not q.", "p(", "p,", "p:-", "not ", "(", "X", "a", "p(a,a,a,a).", "p:-p,p,p.", "?"} {
		for _, n := range []int{0, 1, 2, api.MaxRules, api.MaxRules + 1, api.MaxText / len(unit), api.MaxText/len(unit) + 1, 100000} {
			tryText(t, strings.Repeat(unit, n))
		}
	}
}

// A program that never came out is no promise of the document, but no call
// panics whatever it is given.
func TestNoProgram(t *testing.T) {
	var p *Program
	if s := p.Print(); s != "" {
		t.Errorf("P1: Print of no program = %q", s)
	}
	if l := p.Strata(); len(l) != 0 {
		t.Errorf("P1: Strata of no program = %+v", l)
	}
	wantQuery(t, p, "p(X)", 1, "")
	wantRefused(t, p, "p(", 1, api.ErrAsk)
	wantWhy(t, p, "p(a)", 1, api.Out, 0, "0 0")
	wantUnexplained(t, p, "p(X)", 1, api.ErrAsk)
}

func TestNothingHangsOnCallsBefore(t *testing.T) {
	first := mustLoad(t, example)
	printed, strata := first.Print(), first.Strata()
	other := mustLoad(t, "edge :- not path. path.")
	wantQuery(t, other, "path", api.MaxAtoms, "path")
	wantRefused(t, first, "path(X,Y)", 1, api.ErrLimit)
	wantUnexplained(t, first, "path(a,b)", 1, api.ErrLimit)
	wantLoad(t, "far(a,b,c", api.ErrSyntax, 9)
	wantLoad(t, "far. far(a).", api.ErrArity, 5)
	other.Print()
	other.Strata()
	if first.Print() != printed || !slices.Equal(first.Strata(), strata) {
		t.Error("P1: a program tells other things than before")
	}
	if second := mustLoad(t, example); !reflect.DeepEqual(first, second) {
		t.Error("P1: a text loaded twice makes two kinds of program")
	}
	for range 50 {
		wantQuery(t, first, "path(X,Y)", api.MaxAtoms, "path(a,b) path(a,c) path(b,c)")
		wantQuery(t, first, "far(X)", 6, "far(c)")
		wantQuery(t, other, "edge", api.MaxAtoms, "")
		wantIn(t, first, "far(c)", 1, "1 6  0  1  2 0  2 1  3 0 3  4 4")
		wantOut(t, first, "path(c,a)", "1 5  0  1  2 0  2 1  3 0 3")
		wantOut(t, other, "edge", "2 1  1")
		wantCheck(t, example, "far(c)", api.In, whyFar)
		wantCheck(t, "edge :- not path. path.", "edge", api.Out, "2 1  1")
		wantCheck(t, "edge :- not path. path.", "far(c)", api.No, whyFar)
		wantCheck(t, example, "far(b)", api.Out, whyAll)
		if !slices.Equal(first.Strata(), strata) {
			t.Fatal("P1: Strata tells other things than before")
		}
	}
}

func TestListsAreNewMemory(t *testing.T) {
	p := mustLoad(t, example)
	want := slices.Clone(p.Strata())
	one, two := p.Strata(), p.Strata()
	room := one[:cap(one)]
	for i := range room {
		room[i] = api.Stratum{Name: "x", Stratum: 7, Terms: 7}
	}
	if !slices.Equal(two, want) {
		t.Error("P2: two lists of strata share memory")
	}
	if !slices.Equal(p.Strata(), want) {
		t.Error("P2: a program keeps a list that it has handed out")
	}
	_ = append(two[:len(two):cap(two)], one...)
	if got := p.Strata(); !slices.Equal(got, want) {
		t.Errorf("P2: Strata = %+v, want %+v", got, want)
	}
}

func TestAnswersAreNewMemory(t *testing.T) {
	p := mustLoad(t, example)
	const want = "path(a,b) path(a,c) path(b,c)"
	one, _ := p.Query("path(X,Y)", api.MaxAtoms)
	two, _ := p.Query("path(X,Y)", api.MaxAtoms)
	room := one[:cap(one)]
	for i := range room {
		room[i] = "x"
	}
	if strings.Join(two, " ") != want {
		t.Error("P2: two answers share memory")
	}
	wantQuery(t, p, "path(X,Y)", api.MaxAtoms, want)
}

func TestWitnessesAreNewMemory(t *testing.T) {
	p := mustLoad(t, example)
	for thing, want := range map[string]string{"far(c)": "1 6  0  1  2 0  2 1  3 0 3  4 4", "path(c,a)": "1 5  0  1  2 0  2 1  3 0 3", "owl": "0 0"} {
		one, _ := p.Explain(thing, api.MaxAtoms)
		two, _ := p.Explain(thing, api.MaxAtoms)
		room := one.Witness[:cap(one.Witness)]
		for i := range room {
			room[i] = 7
		}
		if !slices.Equal(two.Witness, bytesOf(t, want)) {
			t.Errorf("P2: two witnesses of %q share memory", thing)
		}
		room = two.Witness[:cap(two.Witness)]
		clear(room)
		again, _ := p.Explain(thing, api.MaxAtoms)
		if !slices.Equal(again.Witness, bytesOf(t, want)) {
			t.Errorf("P2: a witness of %q that was handed out is kept", thing)
		}
	}
}

func TestNoQuestionPanics(t *testing.T) {
	p := mustLoad(t, example)
	for a := range 256 {
		for b := range 256 {
			for _, ahead := range []string{"", "far", "far(", "far(c"} {
				atom := ahead + string([]byte{byte(a), byte(b)})
				l, e := p.Query(atom, api.MaxAtoms)
				if e != api.OK && e != api.ErrAsk || e == api.ErrAsk && len(l) != 0 {
					t.Fatalf("P6: Query(%q) = %q, %d", atom, l, e)
				}
				tryWhy(t, p, example, atom, api.MaxAtoms)
			}
		}
	}
}

// Whatever a byte of a witness is, or a byte more; rows of two; and long rows.
func TestNoWitnessPanics(t *testing.T) {
	for _, witness := range []string{whyPath, whyFar, whyAll, whyNone, "0 0"} {
		list := bytesOf(t, witness)
		for i := range list {
			for c := range 256 {
				changed := slices.Clone(list)
				changed[i] = byte(c)
				tryBytes(t, changed)
				tryBytes(t, slices.Insert(slices.Clone(list), i, byte(c)))
			}
		}
	}
	some := []byte{0, 1, 2, 3, 4, 5, 6, 49, 50, 51, 127, 128, 254, 255}
	for _, a := range some {
		for _, b := range some {
			tryBytes(t, []byte{a, b})
			tryBytes(t, []byte{0, 4, 0, 1, 2, 1, a, b})
		}
	}
	for _, n := range []int{3, 52, 258, 100000} {
		for _, c := range []byte{0, 1, 2, 50, 51, 255} {
			tryBytes(t, slices.Repeat([]byte{c}, n))
		}
	}
}

// tryBytes checks bytes by the example, and holds the verdicts against what
// follows from it.
func tryBytes(t *testing.T, list []byte) {
	t.Helper()
	for thing, follows := range map[string]bool{"edge(a,b)": true, "path(a,c)": true, "far(c)": true, "edge(a,c)": false, "path(c,a)": false, "far(b)": false, "owl": false} {
		v := Check(example, thing, list)
		if v != api.In && v != api.Out && v != api.No {
			t.Fatalf("P8: Check(%q, %v) = %d", thing, list, v)
		}
		if v == api.In && !follows || v == api.Out && follows {
			t.Fatalf("P9: Check(%q, %v) = %d", thing, list, v)
		}
	}
}

// Check keeps nothing of the bytes, and answers nothing that could be written into.
func TestWitnessIsNotKept(t *testing.T) {
	list := bytesOf(t, whyFar)
	if v := Check(example, "far(c)", list); v != api.In {
		t.Errorf("P8: Check = %d", v)
	}
	clear(list)
	if v := Check(example, "far(c)", list); v != api.No {
		t.Errorf("P1: Check = %d by bytes that are no longer there", v)
	}
	wantCheck(t, example, "far(c)", api.In, whyFar)
}
