// Package witness: why a thing follows, or does not, in a few bytes.
package witness

// Node is a rule, by its number, and for each of its positive literals the
// number of the node that says it.
type Node struct {
	Rule  int
	Named []int
}

// Witness has nodes, and K: the strata less than it are told whole.
type Witness struct {
	K     int
	Nodes []Node
}

// Bytes writes a witness. A byte has room for each of its numbers, as there are
// few rules, and so few strata, and few things may follow.
func (w Witness) Bytes() []byte {
	list := []byte{byte(w.K), byte(len(w.Nodes))}
	for _, n := range w.Nodes {
		list = append(list, byte(n.Rule))
		for _, number := range n.Named {
			list = append(list, byte(number))
		}
	}
	return list
}
