package affidavit

import (
	"bytes"
	"math/rand/v2"
	"slices"
	"strings"
	"testing"

	"affidavit/api"
)

// The tests in this file hold Check against a check of witnesses by rules that
// are written out: a node is one of these rules, and all of them are gone
// through to see whether a stratum is closed.

func (rough roughRule) positive() []string {
	var atoms []string
	for _, l := range rough.body {
		if !l.negative {
			atoms = append(atoms, l.atom)
		}
	}
	return atoms
}

// node finds the rule that a node is of which those bytes are the first.
func (m *whyModel) node(rest []byte, ahead []roughRule) (roughRule, bool) {
	for _, r := range m.rules {
		atoms := r.positive()
		fits := len(rest) > len(atoms) && r.number == int(rest[0])
		for i, atom := range atoms {
			fits = fits && int(rest[1+i]) < len(ahead) && ahead[rest[1+i]].head == atom
		}
		if fits {
			return r, true
		}
	}
	return roughRule{}, false
}

// nodes has the rules that the nodes are.
func (m *whyModel) nodes(list []byte) ([]roughRule, bool) {
	if len(list) < 2 || list[1] > api.MaxAtoms {
		return nil, false
	}
	var nodes []roughRule
	rest := list[2:]
	for len(nodes) < int(list[1]) {
		r, ok := m.node(rest, nodes)
		if !ok {
			return nil, false
		}
		nodes = append(nodes, r)
		rest = rest[1+len(r.positive()):]
	}
	return nodes, len(rest) == 0
}

func (m *whyModel) right(list []byte) (map[string]bool, bool) {
	nodes, ok := m.nodes(list)
	if !ok {
		return nil, false
	}
	k, count := int(list[0]), 0
	for _, stratum := range m.strata {
		count = max(count, stratum+1)
	}
	said := map[string]bool{}
	for _, r := range nodes {
		ok = ok && !said[r.head]
		said[r.head] = true
	}
	for _, r := range nodes {
		for _, l := range r.body {
			ok = ok && (!l.negative || m.stratum(l.atom) < k && !said[l.atom])
		}
	}
	for _, r := range m.rules {
		holds := true
		for _, l := range r.body {
			holds = holds && said[l.atom] != l.negative
		}
		ok = ok && (!holds || said[r.head] || m.stratum(r.head) >= k)
	}
	return said, ok && k <= count
}

func (m *whyModel) shows(atom string, list []byte) int {
	said, ok := m.right(list)
	stratum, inText := m.strata[predicateOf(atom)]
	switch {
	case ok && said[atom]:
		return api.In
	case ok && (!inText || stratum < int(list[0])):
		return api.Out
	}
	return api.No
}

// tally counts verdicts.
type tally [api.No + 1]int

// tryCheck holds Check against the model, and against what follows.
func tryCheck(t *testing.T, m *whyModel, text, thing string, list []byte, seen *tally) {
	t.Helper()
	want := m.shows(thing, list)
	seen[want]++
	if v := Check(text, thing, list); v != want {
		t.Fatalf("P8: Check(%q, %q, %v) = %d, want %d", text, thing, list, v, want)
	}
	if want == api.In && !m.follows[thing] || want == api.Out && m.follows[thing] {
		t.Fatalf("P9: Check(%q, %q, %v) = %d", text, thing, list, want)
	}
}

// grown makes a witness of nodes whose positive literals are said, chosen
// without any order. Some of them may deny what is said, or say it again.
func grown(r *rand.Rand, m *whyModel) []byte {
	list := []byte{byte(r.IntN(4)), 0}
	places := map[string]int{}
	careless := r.IntN(4) == 0
	for _, i := range append(r.Perm(len(m.rules)), r.Perm(len(m.rules))...) {
		rough := m.rules[i]
		node := []byte{byte(rough.number)}
		fits := true
		for _, l := range rough.body {
			place, is := places[l.atom]
			if l.negative {
				fits = fits && (!is || careless)
				continue
			}
			fits = fits && is
			node = append(node, byte(place))
		}
		if _, twice := places[rough.head]; !fits || twice && (!careless || r.IntN(20) > 0) {
			continue
		}
		places[rough.head] = int(list[1])
		list[1]++
		list = append(list, node...)
		if r.IntN(15) == 0 || list[1] > api.MaxAtoms {
			break
		}
	}
	return list
}

// spoiled changes a few bytes.
func spoiled(r *rand.Rand, list []byte) []byte {
	list = bytes.Clone(list)
	at := r.IntN(len(list))
	switch r.IntN(6) {
	case 0:
		list[at] = byte(r.IntN(256))
	case 1:
		list[at]++
	case 2:
		list[at]--
	case 3:
		list = slices.Delete(list, at, at+1)
	case 4:
		list = slices.Insert(list, at, byte(r.IntN(8)))
	case 5:
		list[0] = byte(r.IntN(5))
	}
	return list
}

// witnessesFor has some that Explain tells, some others, and all these spoiled.
func witnessesFor(r *rand.Rand, p *Program) [][]byte {
	list := [][]byte{{0, 0}}
	for predicate := range arities {
		if y, e := p.Explain(roughAtom(r, predicate, names), api.MaxAtoms); e == api.OK {
			list = append(list, y.Witness)
		}
	}
	return list
}

func TestCheckAgainstModels(t *testing.T) {
	r := rand.New(rand.NewPCG(5, 6))
	var told, other, wrong tally
	for range 500 {
		text := roughText(r)
		p, e, _ := Load(text)
		if e != api.OK {
			continue
		}
		m := whyModelOf(t, p, text)
		list := witnessesFor(r, p)
		for _, witness := range list {
			tryCheck(t, m, text, roughAtom(r, r.IntN(len(arities)), names), witness, &told)
		}
		for range 8 {
			witness := grown(r, m)
			list = append(list, witness)
			tryCheck(t, m, text, roughAtom(r, r.IntN(len(arities)), names), witness, &other)
			tryCheck(t, m, text, "owl", witness, &other)
		}
		for _, witness := range list {
			witness = spoiled(r, witness)
			tryCheck(t, m, text, roughAtom(r, r.IntN(len(arities)), names), witness, &wrong)
			tryCheck(t, m, text, "owl", witness, &wrong)
		}
	}
	t.Logf("In, Out, No: of what Explain tells %v, of others %v, of spoiled ones %v", told[1:], other[1:], wrong[1:])
	for _, seen := range []tally{told, other, wrong} {
		if seen[api.In] < 50 || seen[api.Out] < 50 || seen[api.No] < 50 {
			t.Error("too few witnesses were tried")
		}
	}
}

// What Explain tells of each thing is accepted (P9).
func TestCheckAcceptsWhatIsExplained(t *testing.T) {
	r := rand.New(rand.NewPCG(7, 8))
	var seen tally
	for range 500 {
		text := roughText(r)
		p, e, _ := Load(text)
		if e != api.OK {
			continue
		}
		m := whyModelOf(t, p, text)
		asked := append(slices.Clone(m.order), "owl", "owl(b)")
		for range 5 {
			asked = append(asked, roughAtom(r, r.IntN(len(arities)), names))
		}
		for _, thing := range asked {
			y, e := p.Explain(thing, api.MaxAtoms)
			if e != api.OK {
				continue
			}
			if v := Check(text, thing, y.Witness); v != y.Verdict {
				t.Fatalf("P9: Check(%q, %q, %v) = %d, want %d", text, thing, y.Witness, v, y.Verdict)
			}
			seen[y.Verdict]++
		}
	}
	t.Logf("In and Out: %v", seen[1:3])
	if seen[api.In] < 2000 || seen[api.Out] < 1000 {
		t.Error("too few things were explained")
	}
}

// Of small texts all rows of bytes that are no longer than some, and have no
// byte greater than some.
func TestCheckOfAllShortWitnesses(t *testing.T) {
	const most = 3
	for _, c := range []struct {
		text   string
		length int
	}{
		{"", 4},
		{"p.\n", 5},
		{"p.\np.\n", 5},
		{"p :- p.\n", 6},
		{"p :- q.\nq :- p.\n", 6},
		{"p :- not q.\n", 5},
		{"p :- not q.\nq.\n", 6},
		{"p.\nq :- p, not r.\nr :- not q2.\n", 6},
		{"p(b).\nq(X) :- p(X).\n", 6},
		{"p(b).\np(9).\nq(X) :- p(X), not r(X).\nr(9).\n", 7},
		{"r :- p.\np.\nq :- not r.\n", 7},
	} {
		p := mustLoad(t, c.text)
		m := whyModelOf(t, p, c.text)
		asked := []string{"owl"}
		for _, s := range p.Strata() {
			asked = append(asked, writtenOut(s.Name+strings.Repeat("(X)", s.Terms))...)
		}
		var seen tally
		var walk func(list []byte)
		walk = func(list []byte) {
			for _, thing := range asked {
				tryCheck(t, m, c.text, thing, list, &seen)
			}
			if len(list) == c.length {
				return
			}
			for b := range byte(most + 1) {
				walk(append(slices.Clip(list), b))
			}
		}
		walk(nil)
		if seen[api.Out] == 0 || seen[api.No] == 0 || len(m.order) > 0 && seen[api.In] == 0 {
			t.Errorf("of %q: In, Out, No: %v", c.text, seen[1:])
		}
	}
}
