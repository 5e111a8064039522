package follow

import (
	"iter"

	"affidavit/rule"
	"affidavit/thing"
)

// Ways goes through all that the variables of a rule can be, if its positive
// literals are all among the things that are said, and its negative ones are
// not. They come in no order.
func Ways(r rule.Rule, said map[thing.Thing]int) iter.Seq[thing.Binding] {
	return waysFrom(thing.Binding{}, r, said)
}

// WaysTo goes through those of the ways by which the rule's head is a thing.
func WaysTo(r rule.Rule, head thing.Thing, said map[thing.Thing]int) iter.Seq[thing.Binding] {
	start, ok := (thing.Binding{}).Match(r.Head, head)
	if !ok {
		return func(func(thing.Binding) bool) {}
	}
	return waysFrom(start, r, said)
}

func waysFrom(start thing.Binding, r rule.Rule, said map[thing.Thing]int) iter.Seq[thing.Binding] {
	return func(yield func(thing.Binding) bool) {
		s := search{positive: r.Positive(), negative: r.Negative(), said: said, yield: yield}
		s.from(0, start)
	}
}

type search struct {
	positive, negative []rule.Atom
	said               map[thing.Thing]int
	yield              func(thing.Binding) bool
}

// from matches the positive literals from one on, and tells whether to go on.
// The negative ones come last: only then all their variables are bound.
func (s *search) from(literal int, b thing.Binding) bool {
	if literal == len(s.positive) {
		return s.denied(b) || s.yield(b)
	}
	for t := range s.said {
		next, ok := b.Match(s.positive[literal], t)
		if ok && !s.from(literal+1, next) {
			return false
		}
	}
	return true
}

// denied tells whether a negative literal is said after all.
func (s *search) denied(b thing.Binding) bool {
	for _, a := range s.negative {
		if _, is := s.said[b.Fill(a)]; is {
			return true
		}
	}
	return false
}
