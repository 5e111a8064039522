package follow

import (
	"cmp"
	"slices"

	"affidavit/strata"
	"affidavit/thing"
)

// Placed is a thing that follows, with what its place in the order hangs on.
type Placed struct {
	Thing           thing.Thing
	Stratum, Height int
}

// Order has the things in their order: by stratum, then by height, then by text.
func (known Heights) Order(table strata.Table) []Placed {
	var list []Placed
	for t, height := range known {
		list = append(list, Placed{Thing: t, Stratum: table[t[0]].Stratum, Height: height})
	}
	slices.SortFunc(list, Placed.compare)
	return list
}

func (p Placed) compare(q Placed) int {
	return cmp.Or(
		cmp.Compare(p.Stratum, q.Stratum),
		cmp.Compare(p.Height, q.Height),
		cmp.Compare(p.Thing.Text(), q.Thing.Text()),
	)
}

// Under tells whether a literal that is p can give q its height.
func (p Placed) Under(q Placed) bool {
	return p.Stratum < q.Stratum || p.Stratum == q.Stratum && p.Height < q.Height
}
