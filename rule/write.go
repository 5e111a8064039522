package rule

import "strings"

// Write writes rules as a text, each in a line of its own.
func Write(rules []Rule) string {
	var b strings.Builder
	for _, r := range rules {
		writeRule(&b, r)
	}
	return b.String()
}

// Text writes an atom as it is written in a text.
func (a Atom) Text() string {
	var b strings.Builder
	writeAtom(&b, a)
	return b.String()
}

func writeRule(b *strings.Builder, r Rule) {
	writeAtom(b, r.Head)
	for i, l := range r.Body {
		if i == 0 {
			b.WriteString(" :- ")
		} else {
			b.WriteString(", ")
		}
		writeLiteral(b, l)
	}
	b.WriteString(".\n")
}

func writeLiteral(b *strings.Builder, l Literal) {
	if l.Negative {
		b.WriteString("not ")
	}
	writeAtom(b, l.Atom)
}

func writeAtom(b *strings.Builder, a Atom) {
	b.WriteString(a.Predicate)
	if len(a.Terms) == 0 {
		return
	}
	for i, t := range a.Terms {
		if i == 0 {
			b.WriteByte('(')
		} else {
			b.WriteByte(',')
		}
		writeTerm(b, t)
	}
	b.WriteByte(')')
}

func writeTerm(b *strings.Builder, t Term) {
	switch t := t.(type) {
	case Name:
		b.WriteString(string(t))
	case Variable:
		b.WriteString(string(t))
	}
}
