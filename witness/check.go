package witness

import (
	"affidavit/api"
	"affidavit/follow"
	"affidavit/rule"
	"affidavit/strata"
	"affidavit/thing"
)

// Shows tells what the bytes of a witness show of a thing: In or Out, or No if
// it is not right for the rules, or shows nothing of the thing.
func Shows(list []byte, rules []rule.Rule, table strata.Table, asked thing.Thing) int {
	w, ok := fromBytes(list, rules)
	if !ok {
		return api.No
	}
	said, ok := w.right(rules, table)
	if !ok {
		return api.No
	}
	if _, is := said[asked]; is {
		return api.In
	}
	if s, inText := table[asked[0]]; !inText || s.Stratum < w.K {
		return api.Out
	}
	return api.No
}

// right has what the nodes of a right witness say, each thing with its node's
// number; or tells that it is not right.
func (w Witness) right(rules []rule.Rule, table strata.Table) (map[thing.Thing]int, bool) {
	if w.K > table.Count() {
		return nil, false
	}
	steps, ok := w.steps(rules)
	if !ok {
		return nil, false
	}
	said, ok := gather(steps)
	if !ok || !w.denies(steps, said, table) || !w.closed(rules, said, table) {
		return nil, false
	}
	return said, true
}

// step is a node whose literals match: its rule, what the rule's variables are,
// and what the node says.
type step struct {
	rule  rule.Rule
	bound thing.Binding
	says  thing.Thing
}

// steps takes the nodes one by one, or tells that one of them can't be taken.
func (w Witness) steps(rules []rule.Rule) ([]step, bool) {
	var steps []step
	for _, n := range w.Nodes {
		next, ok := take(rules[n.Rule], n.Named, steps)
		if !ok {
			return nil, false
		}
		steps = append(steps, next)
	}
	return steps, true
}

// take matches a rule's positive literals with what is named for them. Only what
// stands ahead can be named, or else things could hold each other up.
func take(r rule.Rule, named []int, ahead []step) (step, bool) {
	var bound thing.Binding
	for i, a := range r.Positive() {
		if named[i] >= len(ahead) {
			return step{}, false
		}
		next, ok := bound.Match(a, ahead[named[i]].says)
		if !ok {
			return step{}, false
		}
		bound = next
	}
	return step{rule: r, bound: bound, says: bound.Fill(r.Head)}, true
}

// gather has what the steps say, or tells that a thing is said twice.
func gather(steps []step) (map[thing.Thing]int, bool) {
	said := map[thing.Thing]int{}
	for i, s := range steps {
		if _, twice := said[s.says]; twice {
			return nil, false
		}
		said[s.says] = i
	}
	return said, true
}

// denies tells whether all negative literals of the steps are of strata that are
// told whole, and none is said: not to be said means nothing in other strata.
func (w Witness) denies(steps []step, said map[thing.Thing]int, table strata.Table) bool {
	for _, s := range steps {
		for _, a := range s.rule.Negative() {
			_, is := said[s.bound.Fill(a)]
			if is || table[a.Predicate].Stratum >= w.K {
				return false
			}
		}
	}
	return true
}

// closed tells whether the strata less than K are told whole.
func (w Witness) closed(rules []rule.Rule, said map[thing.Thing]int, table strata.Table) bool {
	for _, r := range rules {
		if table[r.Head.Predicate].Stratum < w.K && !saysAll(r, said) {
			return false
		}
	}
	return true
}

// saysAll tells whether all that comes of a rule and of what is said is said too.
func saysAll(r rule.Rule, said map[thing.Thing]int) bool {
	for b := range follow.Ways(r, said) {
		if _, is := said[b.Fill(r.Head)]; !is {
			return false
		}
	}
	return true
}
