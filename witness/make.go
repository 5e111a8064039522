package witness

import (
	"slices"

	"affidavit/follow"
	"affidavit/rule"
	"affidavit/strata"
	"affidavit/thing"
)

// Of makes the witness that shows whether a thing follows. What is needed is
// found from the last thing to the first, as a reason names only what stands
// ahead in the order.
func Of(rules []rule.Rule, table strata.Table, known follow.Heights, asked thing.Thing) Witness {
	k := wholeStrata(table, known, asked)
	order := known.Order(table)
	reasons := make([]Node, len(order))
	needed := make([]bool, len(order))
	for i, p := range slices.Backward(order) {
		if p.Stratum < k || p.Thing == asked {
			needed[i] = true
		}
		if !needed[i] {
			continue
		}
		reasons[i] = reason(rules, order, p)
		for _, number := range reasons[i].Named {
			needed[number] = true
		}
	}
	return Witness{K: k, Nodes: renumber(reasons, needed)}
}

// wholeStrata tells how many strata must be told whole: those that the thing's
// negative literals are of, and its own too if it is to be seen that it is not
// there. If no rule speaks of it, none.
func wholeStrata(table strata.Table, known follow.Heights, asked thing.Thing) int {
	s, inText := table[asked[0]]
	if !inText {
		return 0
	}
	if _, follows := known[asked]; follows {
		return s.Stratum
	}
	return s.Stratum + 1
}

// reason has the least rule by which a thing has its height, and of that rule
// the least row of the numbers that things have in the order.
func reason(rules []rule.Rule, order []follow.Placed, p follow.Placed) Node {
	numbers := under(order, p)
	for i, r := range rules {
		if row, ok := leastRow(r, p.Thing, numbers); ok {
			return Node{Rule: i, Named: row}
		}
	}
	return Node{} // never, as whatever follows has a rule by which it does
}

// under has the numbers of the things that a thing's height can come from.
func under(order []follow.Placed, p follow.Placed) map[thing.Thing]int {
	numbers := map[thing.Thing]int{}
	for i, other := range order {
		if other.Under(p) {
			numbers[other.Thing] = i
		}
	}
	return numbers
}

// leastRow has the least of the rows by which a rule's head is the thing.
func leastRow(r rule.Rule, head thing.Thing, numbers map[thing.Thing]int) ([]int, bool) {
	var least []int
	found := false
	positive := r.Positive()
	for b := range follow.WaysTo(r, head, numbers) {
		row := make([]int, len(positive))
		for i, a := range positive {
			row[i] = numbers[b.Fill(a)]
		}
		if !found || slices.Compare(row, least) < 0 {
			least, found = row, true
		}
	}
	return least, found
}

// renumber leaves out the nodes that are not needed.
func renumber(reasons []Node, needed []bool) []Node {
	var nodes []Node
	places := make([]int, len(reasons))
	for i, n := range reasons {
		if !needed[i] {
			continue
		}
		places[i] = len(nodes)
		named := make([]int, len(n.Named))
		for j, number := range n.Named {
			named[j] = places[number]
		}
		nodes = append(nodes, Node{Rule: n.Rule, Named: named})
	}
	return nodes
}
