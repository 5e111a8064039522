package read

import (
	"strings"

	"affidavit/api"
)

type kind int

const (
	end      kind = iota // the text is at its end
	wrong                // no token
	name                 // a row of small letters and digits
	variable             // a row of capitals
	not                  // the word `not`
	open                 // (
	shut                 // )
	comma                // ,
	stop                 // .
	when                 // :-
)

// token is a kind, and the place of its first byte and of the one behind it.
type token struct {
	kind     kind
	from, to int
}

// scan tells the first token at a place or behind it.
func scan(text string, at int) token {
	at += rowLength(text[at:], isBlank)
	k, n := measure(text[at:])
	return token{kind: k, from: at, to: at + n}
}

// measure tells the kind and the length of what a rest of a text begins with.
func measure(rest string) (kind, int) {
	switch {
	case rest == "":
		return end, 0
	case isSmall(rest[0]):
		return nameAt(rest)
	case isCapital(rest[0]):
		return variableAt(rest)
	}
	return signAt(rest)
}

func nameAt(rest string) (kind, int) {
	n := rowLength(rest, isSmall)
	switch {
	case n > api.MaxName:
		return wrong, n
	case rest[:n] == "not":
		return not, n
	}
	return name, n
}

func variableAt(rest string) (kind, int) {
	n := rowLength(rest, isCapital)
	if n > api.MaxName {
		return wrong, n
	}
	return variable, n
}

func signAt(rest string) (kind, int) {
	switch {
	case strings.HasPrefix(rest, "("):
		return open, 1
	case strings.HasPrefix(rest, ")"):
		return shut, 1
	case strings.HasPrefix(rest, ","):
		return comma, 1
	case strings.HasPrefix(rest, "."):
		return stop, 1
	case strings.HasPrefix(rest, ":-"):
		return when, 2
	}
	return wrong, 1
}

// rowLength tells how many bytes at the beginning are all of one sort.
func rowLength(s string, belongs func(byte) bool) int {
	n := 0
	for n < len(s) && belongs(s[n]) {
		n++
	}
	return n
}

func isBlank(c byte) bool   { return c == ' ' || c == '\n' }
func isSmall(c byte) bool   { return 'a' <= c && c <= 'z' || '0' <= c && c <= '9' }
func isCapital(c byte) bool { return 'A' <= c && c <= 'Z' }
