package affidavit

import (
	"math/rand/v2"
	"slices"
	"strings"
	"testing"

	"affidavit/api"
)

// whyModel works out heights, the order and the nodes from rules that are
// written out; of the program it takes the strata alone.
type whyModel struct {
	rules   []roughRule
	follows map[string]bool
	strata  map[string]int
	heights map[string]int
	order   []string
	// how often another rule, or other nodes of the rule, would have done
	otherRule, otherRow int
}

func predicateOf(atom string) string {
	predicate, _, _ := strings.Cut(atom, "(")
	return predicate
}

func whyModelOf(t *testing.T, p *Program, text string) *whyModel {
	t.Helper()
	m := &whyModel{rules: groundRules(text), strata: map[string]int{}, heights: map[string]int{}}
	m.follows = modelOf(t, m.rules)
	for _, s := range p.Strata() {
		m.strata[s.Name] = s.Stratum
	}
	m.findHeights()
	for s := range m.follows {
		m.order = append(m.order, s)
	}
	slices.SortFunc(m.order, func(a, b string) int {
		if d := m.stratum(a) - m.stratum(b); d != 0 {
			return d
		}
		if d := m.heights[a] - m.heights[b]; d != 0 {
			return d
		}
		return strings.Compare(a, b)
	})
	return m
}

func (m *whyModel) stratum(atom string) int { return m.strata[predicateOf(atom)] }

// findHeights lowers them from ones that are too great until none can be lower.
func (m *whyModel) findHeights() {
	for s := range m.follows {
		m.heights[s] = 1000
	}
	for lower := true; lower; {
		lower = false
		for _, r := range m.rules {
			if height := m.heightBy(r); height < m.heights[r.head] {
				m.heights[r.head], lower = height, true
			}
		}
	}
}

// heightBy tells the height that a rule gives its head; great if it gives none.
func (m *whyModel) heightBy(r roughRule) int {
	height := 1
	for _, l := range r.body {
		if m.follows[l.atom] == l.negative {
			return 1000
		}
		if !l.negative && m.stratum(l.atom) == m.stratum(r.head) {
			height = max(height, m.heights[l.atom]+1)
		}
	}
	return height
}

// reason has the rule of a thing and the places in the order of what it names.
func (m *whyModel) reason(atom string) (int, []int) {
	var all [][]int
	for _, r := range m.rules {
		if r.head != atom || m.heightBy(r) != m.heights[atom] {
			continue
		}
		row := []int{r.number}
		for _, l := range r.body {
			if !l.negative {
				row = append(row, slices.Index(m.order, l.atom))
			}
		}
		all = append(all, row)
	}
	slices.SortFunc(all, slices.Compare)
	all = slices.CompactFunc(all, slices.Equal)
	if all[0][0] != all[len(all)-1][0] {
		m.otherRule++
	}
	if len(all) > 1 && all[0][0] == all[1][0] {
		m.otherRow++
	}
	return all[0][0], all[0][1:]
}

// need adds a thing, and what its node names, to what a witness says.
func (m *whyModel) need(said map[string]bool, atom string) {
	said[atom] = true
	_, row := m.reason(atom)
	for _, i := range row {
		m.need(said, m.order[i])
	}
}

func (m *whyModel) explain(atom string) api.Why {
	why := api.Why{Verdict: api.Out}
	stratum, inText := m.strata[predicateOf(atom)]
	k := 0
	said := map[string]bool{}
	switch {
	case m.follows[atom]:
		why.Verdict, why.Height, k = api.In, m.heights[atom], stratum
		m.need(said, atom)
	case inText:
		k = stratum + 1
	}
	for _, s := range m.order {
		if m.stratum(s) < k {
			said[s] = true
		}
	}
	why.Witness = append(why.Witness, byte(k), byte(len(said)))
	places := map[string]int{}
	for _, s := range m.order {
		if !said[s] {
			continue
		}
		places[s] = len(places)
		rule, row := m.reason(s)
		why.Witness = append(why.Witness, byte(rule))
		for _, i := range row {
			why.Witness = append(why.Witness, byte(places[m.order[i]]))
		}
	}
	return why
}

// askWhy asks a program of what follows and of much that does not.
func askWhy(t *testing.T, r *rand.Rand, p *Program, m *whyModel) {
	t.Helper()
	asked := slices.Clone(m.order)
	for range 10 {
		asked = append(asked, roughAtom(r, r.IntN(len(arities)), names))
	}
	for _, s := range asked {
		want := m.explain(s)
		y, e := p.Explain(s, max(len(m.order), 1))
		if e != api.OK || y.Verdict != want.Verdict || y.Height != want.Height || !slices.Equal(y.Witness, want.Witness) {
			t.Errorf("P7: Explain(%q) = %+v, %d, want %+v", s, y, e, want)
		}
	}
}

func TestExplainAgainstModels(t *testing.T) {
	r := rand.New(rand.NewPCG(3, 4))
	tried, otherRule, otherRow, high := 0, 0, 0, 0
	for range 1500 {
		text := roughText(r)
		p, e, _ := Load(text)
		if e != api.OK {
			continue
		}
		m := whyModelOf(t, p, text)
		if len(m.order) > api.MaxAtoms {
			wantUnexplained(t, p, "owl", api.MaxAtoms, api.ErrLimit)
			continue
		}
		askWhy(t, r, p, m)
		if t.Failed() {
			t.Fatalf("the text was\n%s", text)
		}
		tried++
		otherRule += min(m.otherRule, 1)
		otherRow += min(m.otherRow, 1)
		if len(m.order) > 0 && m.stratum(m.order[len(m.order)-1]) > 1 {
			high++
		}
	}
	t.Logf("%d texts; in %d there was another rule, in %d there were other nodes, in %d things of stratum 2 or more", tried, otherRule, otherRow, high)
	if tried < 800 || otherRule < 100 || otherRow < 100 || high < 100 {
		t.Error("too few texts were tried")
	}
}
