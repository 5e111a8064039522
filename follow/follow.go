// Package follow: what follows from rules, and at which height.
package follow

import (
	"maps"
	"slices"

	"affidavit/rule"
	"affidavit/strata"
	"affidavit/thing"
)

// Heights has the things that follow, each with its height.
type Heights map[thing.Thing]int

// Of works out what follows; or tells that it is more than limit things. All of
// a stratum is known ahead of the next one, so that what is not known there can
// be taken as not being so.
func Of(rules []rule.Rule, table strata.Table, limit int) (Heights, bool) {
	known := Heights{}
	for stratum := range table.Count() {
		if !known.climb(ofStratum(rules, table, stratum), limit) {
			return nil, false
		}
	}
	return known, true
}

func ofStratum(rules []rule.Rule, table strata.Table, stratum int) []rule.Rule {
	var own []rule.Rule
	for _, r := range rules {
		if table[r.Head.Predicate].Stratum == stratum {
			own = append(own, r)
		}
	}
	return own
}

// climb adds what follows from the rules of a stratum, height by height, and
// tells whether there are no more than limit things.
func (known Heights) climb(rules []rule.Rule, limit int) bool {
	for height := 1; ; height++ {
		fresh, ok := known.next(rules, height, limit)
		if !ok || len(fresh) == 0 {
			return ok
		}
		maps.Copy(known, fresh)
	}
}

// next has the things of the height, if all those of less height are known. It
// stops at too many, as they may be far more than limit.
func (known Heights) next(rules []rule.Rule, height, limit int) (Heights, bool) {
	fresh := Heights{}
	for _, r := range rules {
		for b := range Ways(r, known) {
			head := b.Fill(r.Head)
			if _, old := known[head]; old {
				continue
			}
			fresh[head] = height
			if len(known)+len(fresh) > limit {
				return nil, false
			}
		}
	}
	return fresh, true
}

// Matching has the texts of the things that match an atom, rising.
func (known Heights) Matching(a rule.Atom) []string {
	var texts []string
	for t := range known {
		if _, ok := (thing.Binding{}).Match(a, t); ok {
			texts = append(texts, t.Text())
		}
	}
	slices.Sort(texts)
	return texts
}
