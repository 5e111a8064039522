package witness

import (
	"affidavit/api"
	"affidavit/rule"
)

// fromBytes reads a witness; or tells that its bytes are too few or too many, or
// that it has more nodes than may be, or a rule that is not there.
func fromBytes(list []byte, rules []rule.Rule) (Witness, bool) {
	if len(list) < 2 || list[1] > api.MaxAtoms {
		return Witness{}, false
	}
	w := Witness{K: int(list[0])}
	rest := list[2:]
	for range list[1] {
		n, ok := readNode(rest, rules)
		if !ok {
			return Witness{}, false
		}
		w.Nodes = append(w.Nodes, n)
		rest = rest[1+len(n.Named):]
	}
	if len(rest) > 0 {
		return Witness{}, false
	}
	return w, true
}

// readNode reads the node that a rest begins with. Its rule tells how many bytes
// it has.
func readNode(rest []byte, rules []rule.Rule) (Node, bool) {
	if len(rest) == 0 || int(rest[0]) >= len(rules) {
		return Node{}, false
	}
	n := Node{Rule: int(rest[0])}
	size := 1 + len(rules[n.Rule].Positive())
	if len(rest) < size {
		return Node{}, false
	}
	for _, number := range rest[1:size] {
		n.Named = append(n.Named, int(number))
	}
	return n, true
}
