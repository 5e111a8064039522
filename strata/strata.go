// Package strata: which predicates hang on which, and their strata.
package strata

import (
	"cmp"
	"slices"

	"affidavit/api"
	"affidavit/rule"
)

// Links has for each predicate those of the literals in its rules.
type Links map[string][]string

// LinksOf gathers the links of rules.
func LinksOf(rules []rule.Rule) Links {
	links := Links{}
	for _, r := range rules {
		for _, l := range r.Body {
			p := r.Head.Predicate
			links[p] = append(links[p], l.Atom.Predicate)
		}
	}
	return links
}

// Hangs tells whether p hangs on q.
func (links Links) Hangs(p, q string) bool {
	met := map[string]struct{}{}
	ahead := []string{p}
	for len(ahead) > 0 {
		last := len(ahead) - 1
		from := ahead[last]
		ahead = ahead[:last]
		for _, to := range links[from] {
			if to == q {
				return true
			}
			if _, known := met[to]; !known {
				met[to] = struct{}{}
				ahead = append(ahead, to)
			}
		}
	}
	return false
}

// Table has each predicate of a text.
type Table map[string]api.Stratum

// Of works out the strata of rules in which no predicate hangs on its own not
// being so; only of such rules there are any.
func Of(rules []rule.Rule) Table {
	table := ground(rules)
	for raised := true; raised; {
		raised = false
		for _, r := range rules {
			if table.raise(r) {
				raised = true
			}
		}
	}
	return table
}

// ground has all predicates at stratum 0: raised from there no further than the
// rules ask, they come to the least numbers.
func ground(rules []rule.Rule) Table {
	table := Table{}
	for _, r := range rules {
		table.add(r.Head)
		for _, l := range r.Body {
			table.add(l.Atom)
		}
	}
	return table
}

func (table Table) add(a rule.Atom) {
	table[a.Predicate] = api.Stratum{Name: a.Predicate, Terms: len(a.Terms)}
}

// raise lifts the head's predicate to where the body asks it to be, and tells
// whether it was lower.
func (table Table) raise(r rule.Rule) bool {
	head := table[r.Head.Predicate]
	was := head.Stratum
	for _, l := range r.Body {
		least := table[l.Atom.Predicate].Stratum
		if l.Negative {
			least++
		}
		head.Stratum = max(head.Stratum, least)
	}
	table[head.Name] = head
	return head.Stratum > was
}

// Count tells how many strata there are.
func (table Table) Count() int {
	count := 0
	for _, s := range table {
		count = max(count, s.Stratum+1)
	}
	return count
}

// Suits tells whether an atom has as many terms as its predicate, if that is in
// the table.
func (table Table) Suits(a rule.Atom) bool {
	s, known := table[a.Predicate]
	return !known || s.Terms == len(a.Terms)
}

// List has the table's predicates by rising names.
func (table Table) List() []api.Stratum {
	var list []api.Stratum
	for _, s := range table {
		list = append(list, s)
	}
	slices.SortFunc(list, func(a, b api.Stratum) int { return cmp.Compare(a.Name, b.Name) })
	return list
}
