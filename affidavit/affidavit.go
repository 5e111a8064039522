// Package affidavit: what follows from rules, and why: see DOC.md.
package affidavit

import (
	"affidavit/api"
	"affidavit/follow"
	"affidavit/read"
	"affidavit/rule"
	"affidavit/sound"
	"affidavit/strata"
	"affidavit/thing"
	"affidavit/witness"
)

// Program is a text that was read.
type Program struct {
	rules []rule.Rule
}

// Load reads a text (P3).
func Load(text string) (*Program, api.Errno, int) {
	if len(text) > api.MaxText {
		return nil, api.ErrLong, 0
	}
	t, place, ok := read.Rules(text)
	if !ok {
		return nil, api.ErrSyntax, place
	}
	if e, place := sound.Fault(t); e != api.OK {
		return nil, e, place
	}
	return &Program{rules: t.Rules}, api.OK, 0
}

// list lets a nil program answer as an empty one, so that no call panics.
func (p *Program) list() []rule.Rule {
	if p == nil {
		return nil
	}
	return p.rules
}

// Print writes it (P4).
func (p *Program) Print() string { return rule.Write(p.list()) }

// Strata tells those of all predicates (P5).
func (p *Program) Strata() []api.Stratum { return strata.Of(p.list()).List() }

// Query tells what follows (P6).
func (p *Program) Query(atom string, limit int) ([]string, api.Errno) {
	table := strata.Of(p.list())
	asked, e := readAsked(atom, limit, table)
	if e != api.OK {
		return nil, e
	}
	known, ok := follow.Of(p.list(), table, limit)
	if !ok {
		return nil, api.ErrLimit
	}
	return known.Matching(asked), api.OK
}

// readAsked reads what is asked of a program with these predicates.
func readAsked(atom string, limit int, table strata.Table) (rule.Atom, api.Errno) {
	if limit < 1 || limit > api.MaxAtoms {
		return rule.Atom{}, api.ErrArg
	}
	asked, ok := read.Atom(atom)
	if !ok || !table.Suits(asked) {
		return rule.Atom{}, api.ErrAsk
	}
	return asked, api.OK
}

// Explain tells why something follows, or does not (P7).
func (p *Program) Explain(thing string, limit int) (api.Why, api.Errno) {
	table := strata.Of(p.list())
	asked, e := readThing(thing, limit, table)
	if e != api.OK {
		return api.Why{}, e
	}
	known, ok := follow.Of(p.list(), table, limit)
	if !ok {
		return api.Why{}, api.ErrLimit
	}
	why := api.Why{Verdict: api.Out, Witness: witness.Of(p.list(), table, known, asked).Bytes()}
	if height, follows := known[asked]; follows {
		why.Verdict, why.Height = api.In, height
	}
	return why, api.OK
}

// readThing reads what is asked where there may be no variable.
func readThing(text string, limit int, table strata.Table) (thing.Thing, api.Errno) {
	asked, e := readAsked(text, limit, table)
	if e != api.OK {
		return thing.Thing{}, e
	}
	t, ok := thing.Of(asked)
	if !ok {
		return thing.Thing{}, api.ErrAsk
	}
	return t, api.OK
}

// Check checks a witness (P8).
func Check(text string, thing string, witness []byte) int { return 0 }
