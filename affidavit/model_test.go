package affidavit

import (
	"math/rand/v2"
	"slices"
	"strings"
	"testing"

	"affidavit/api"
)

// The tests in this file work out what follows in another way: all rules are
// written out with every name for every variable, and two guesses of what
// follows, one too small and one too great, are brought together. No strata
// and no matching are in it.

var (
	names     = []string{"b", "10", "9"}
	variables = []string{"X", "Y", "Z"}
	// the predicates p0 to p5 have these numbers of terms
	arities = []int{2, 1, 2, 0, 1, 3}
)

type roughLiteral struct {
	negative bool
	atom     string
}

type roughRule struct {
	number int
	head   string
	body   []roughLiteral
}

// pick chooses a member of a list.
func pick[T any](r *rand.Rand, list []T) T { return list[r.IntN(len(list))] }

// roughAtom makes an atom of a predicate, whose terms are some of those.
func roughAtom(r *rand.Rand, predicate int, terms []string) string {
	atom := "p" + string(rune('0'+predicate))
	if arities[predicate] == 0 {
		return atom
	}
	var chosen []string
	for range arities[predicate] {
		chosen = append(chosen, pick(r, terms))
	}
	return atom + "(" + strings.Join(chosen, ",") + ")"
}

// roughRuleOf makes a rule whose positive literals have all its variables. It
// seldom hangs on a later predicate, or else most texts would have cycles.
func roughRuleOf(r *rand.Rand) roughRule {
	var rough roughRule
	head := r.IntN(len(arities))
	last := head
	if r.IntN(6) == 0 {
		last = len(arities) - 1
	}
	bound := slices.Clone(names)
	for range r.IntN(api.MaxBody) {
		atom := roughAtom(r, r.IntN(last+1), slices.Concat(variables, variables, names))
		rough.body = append(rough.body, roughLiteral{atom: atom})
		for _, v := range variables {
			if strings.Contains(atom, v) {
				bound = append(bound, v, v)
			}
		}
	}
	if last > 0 && r.IntN(2) == 0 {
		rough.body = append(rough.body, roughLiteral{negative: true, atom: roughAtom(r, r.IntN(last), bound)})
	}
	r.Shuffle(len(rough.body), func(i, j int) { rough.body[i], rough.body[j] = rough.body[j], rough.body[i] })
	rough.head = roughAtom(r, head, bound)
	return rough
}

func (rough roughRule) text() string {
	var body []string
	for _, l := range rough.body {
		if l.negative {
			body = append(body, "not "+l.atom)
		} else {
			body = append(body, l.atom)
		}
	}
	if len(body) == 0 {
		return rough.head + ".\n"
	}
	return rough.head + " :- " + strings.Join(body, ", ") + ".\n"
}

// writtenOut has an atom or a text with every name for every variable of it.
func writtenOut(text string) []string {
	for _, v := range variables {
		if strings.Contains(text, v) {
			var all []string
			for _, name := range names {
				all = append(all, writtenOut(strings.ReplaceAll(text, v, name))...)
			}
			return all
		}
	}
	return []string{text}
}

// ground is a rule without variables, from its text.
func ground(text string) roughRule {
	head, rest, has := strings.Cut(strings.TrimSuffix(text, ".\n"), " :- ")
	rough := roughRule{head: head}
	if !has {
		return rough
	}
	for _, s := range strings.Split(rest, ", ") {
		atom, negative := strings.CutPrefix(s, "not ")
		rough.body = append(rough.body, roughLiteral{negative: negative, atom: atom})
	}
	return rough
}

// groundRules writes all rules out; each keeps the number of the rule that it
// comes from.
func groundRules(text string) []roughRule {
	var rules []roughRule
	for number, line := range slices.Collect(strings.Lines(text)) {
		for _, s := range writtenOut(line) {
			rough := ground(s)
			rough.number = number
			rules = append(rules, rough)
		}
	}
	return rules
}

// closure has what follows if just those things are taken not to be so that
// are not in the guess.
func closure(rules []roughRule, guess map[string]bool) map[string]bool {
	got := map[string]bool{}
	for grew := true; grew; {
		grew = false
		for _, r := range rules {
			holds := !got[r.head]
			for _, l := range r.body {
				if l.negative {
					holds = holds && !guess[l.atom]
				} else {
					holds = holds && got[l.atom]
				}
			}
			if holds {
				got[r.head], grew = true, true
			}
		}
	}
	return got
}

// modelOf works out what follows from rules without variables.
func modelOf(t *testing.T, rules []roughRule) map[string]bool {
	t.Helper()
	least := map[string]bool{}
	for {
		most := closure(rules, least)
		next := closure(rules, most)
		if len(next) == len(most) {
			return next
		}
		if len(next) == len(least) {
			t.Fatalf("the guesses do not meet: %v, %v", least, most)
		}
		least = next
	}
}

func matching(model map[string]bool, atom string) string {
	var list []string
	for _, s := range writtenOut(atom) {
		if model[s] {
			list = append(list, s)
		}
	}
	slices.Sort(list)
	return strings.Join(slices.Compact(list), " ")
}

// tryModel asks a program much, and tells how many things follow from it.
func tryModel(t *testing.T, r *rand.Rand, p *Program, text string) int {
	t.Helper()
	model := modelOf(t, groundRules(text))
	count := len(model)
	if count > api.MaxAtoms {
		wantRefused(t, p, "owl", api.MaxAtoms, api.ErrLimit)
		return count
	}
	if count > 1 {
		wantRefused(t, p, "owl", count-1, api.ErrLimit)
	}
	inText := map[string]bool{}
	for _, s := range p.Strata() {
		inText[s.Name] = true
	}
	for range 20 {
		atom := roughAtom(r, r.IntN(len(arities)), slices.Concat(variables, names))
		want := matching(model, atom)
		if want != "" && !inText[atom[:2]] {
			t.Fatalf("%q follows and is not in the text", want)
		}
		wantQuery(t, p, atom, max(count, 1), want)
	}
	return count
}

// roughText makes a text of some facts and some rules.
func roughText(r *rand.Rand) string {
	text := ""
	for range r.IntN(5) {
		text += roughAtom(r, r.IntN(3), names) + ".\n"
	}
	for range 4 + r.IntN(12) {
		text += roughRuleOf(r).text()
	}
	return text
}

func TestQueryAgainstModels(t *testing.T) {
	r := rand.New(rand.NewPCG(1, 2))
	tried, negative := 0, 0
	for range 5000 {
		text := roughText(r)
		p, e, _ := Load(text)
		if e == api.ErrCycle || e == api.ErrLong {
			continue
		}
		if e != api.OK {
			t.Fatalf("P3: Load(%q) = %d", text, e)
		}
		count := tryModel(t, r, p, text)
		if t.Failed() {
			t.Fatalf("the text was\n%s", text)
		}
		tried++
		if strings.Contains(text, "not") && count > 5 {
			negative++
		}
	}
	t.Logf("%d texts, %d with negative literals and some things", tried, negative)
	if tried < 2500 || negative < 1000 {
		t.Error("too few texts were tried")
	}
}
