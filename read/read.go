// Package read: from the bytes of a text to its rules.
package read

import (
	"strings"

	"affidavit/api"
	"affidavit/rule"
)

// Mention is an atom where it stands in the text. The places are kept here, and
// not in the rules, because only what a text is refused for has a place.
type Mention struct {
	Rule     int // the number of its rule
	Negative bool
	Atom     rule.Atom
	Start    int               // the place of its `not`, or of the atom if it has none
	Place    int               // the place of the atom
	Terms    [api.MaxTerms]int // the places of the atom's terms
}

// Text is what was read: the rules, and all their atoms in the order of the text.
type Text struct {
	Rules    []rule.Rule
	Mentions []Mention
}

// reader stands at a token. Whatever cannot be read is at fault from the token
// on that the reader has come to, so its functions tell only whether they could.
type reader struct {
	text     string
	now      token
	number   int // of the rule that is being read
	mentions []Mention
}

// Rules reads a text, or tells the place where it stops being one.
func Rules(text string) (Text, int, bool) {
	r := &reader{text: text, now: scan(text, 0)}
	var rules []rule.Rule
	for r.now.kind != end {
		if len(rules) == api.MaxRules {
			return Text{}, r.now.from, false
		}
		r.number = len(rules)
		next, ok := r.rule()
		if !ok {
			return Text{}, r.now.from, false
		}
		rules = append(rules, next)
	}
	return Text{Rules: rules, Mentions: r.mentions}, 0, true
}

// Atom reads a text that is one atom and nothing else.
func Atom(text string) (rule.Atom, bool) {
	r := &reader{text: text, now: scan(text, 0)}
	a, ok := r.atom(false, r.now.from)
	if !ok || r.now.kind != end {
		return rule.Atom{}, false
	}
	return a, true
}

// take goes on to the next token, if this one is of the kind.
func (r *reader) take(k kind) bool {
	if r.now.kind != k {
		return false
	}
	r.now = scan(r.text, r.now.to)
	return true
}

// word copies the token, so that no rule keeps the text that was handed in.
func (r *reader) word() string {
	return strings.Clone(r.text[r.now.from:r.now.to])
}

func (r *reader) rule() (rule.Rule, bool) {
	head, ok := r.atom(false, r.now.from)
	if !ok {
		return rule.Rule{}, false
	}
	if r.take(stop) {
		return rule.Rule{Head: head}, true
	}
	if !r.take(when) {
		return rule.Rule{}, false
	}
	body, ok := r.body()
	return rule.Rule{Head: head, Body: body}, ok
}

func (r *reader) body() ([]rule.Literal, bool) {
	var body []rule.Literal
	for len(body) < api.MaxBody {
		l, ok := r.literal()
		if !ok {
			return nil, false
		}
		body = append(body, l)
		if !r.take(comma) {
			return body, r.take(stop)
		}
	}
	return nil, false
}

func (r *reader) literal() (rule.Literal, bool) {
	start := r.now.from
	negative := r.take(not)
	a, ok := r.atom(negative, start)
	return rule.Literal{Negative: negative, Atom: a}, ok
}

func (r *reader) atom(negative bool, start int) (rule.Atom, bool) {
	m := Mention{Rule: r.number, Negative: negative, Start: start, Place: r.now.from}
	m.Atom.Predicate = r.word()
	if !r.take(name) {
		return rule.Atom{}, false
	}
	if r.take(open) && !r.terms(&m) {
		return rule.Atom{}, false
	}
	r.mentions = append(r.mentions, m)
	return m.Atom, true
}

func (r *reader) terms(m *Mention) bool {
	for i := range api.MaxTerms {
		m.Terms[i] = r.now.from
		t, ok := r.term()
		if !ok {
			return false
		}
		m.Atom.Terms = append(m.Atom.Terms, t)
		if !r.take(comma) {
			return r.take(shut)
		}
	}
	return false
}

func (r *reader) term() (rule.Term, bool) {
	word := r.word()
	switch {
	case r.take(name):
		return rule.Name(word), true
	case r.take(variable):
		return rule.Variable(word), true
	}
	return nil, false
}
