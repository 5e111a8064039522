// Package affidavit: what follows from rules, and why: see DOC.md.
package affidavit

import (
	"affidavit/api"
	"affidavit/follow"
	"affidavit/read"
	"affidavit/rule"
	"affidavit/sound"
	"affidavit/strata"
	"affidavit/thing"
	"affidavit/witness"
)

// Program is a text that was read.
type Program struct {
	rules []rule.Rule
}

// Load reads a text (P3).
func Load(text string) (*Program, api.Errno, int) {
	if len(text) > api.MaxText {
		return nil, api.ErrLong, 0
	}
	t, place, ok := read.Rules(text)
	if !ok {
		return nil, api.ErrSyntax, place
	}
	if e, place := sound.Fault(t); e != api.OK {
		return nil, e, place
	}
	return &Program{rules: t.Rules}, api.OK, 0
}

// list lets a nil program answer as an empty one, so that no call panics.
func (p *Program) list() []rule.Rule {
	if p == nil {
		return nil
	}
	return p.rules
}

// Print writes it (P4).
func (p *Program) Print() string { return rule.Write(p.list()) }

// Strata tells those of all predicates (P5).
func (p *Program) Strata() []api.Stratum { return strata.Of(p.list()).List() }

// Query tells what follows (P6).
func (p *Program) Query(atom string, limit int) ([]string, api.Errno) {
	if !mayBeLimit(limit) {
		return nil, api.ErrArg
	}
	table := strata.Of(p.list())
	asked, ok := readAsked(atom, table)
	if !ok {
		return nil, api.ErrAsk
	}
	known, ok := follow.Of(p.list(), table, limit)
	if !ok {
		return nil, api.ErrLimit
	}
	return known.Matching(asked), api.OK
}

func mayBeLimit(limit int) bool { return 1 <= limit && limit <= api.MaxAtoms }

// readAsked reads what is asked of a program with these predicates.
func readAsked(text string, table strata.Table) (rule.Atom, bool) {
	asked, ok := read.Atom(text)
	if !ok || !table.Suits(asked) {
		return rule.Atom{}, false
	}
	return asked, true
}

// Explain tells why something follows, or does not (P7).
func (p *Program) Explain(thing string, limit int) (api.Why, api.Errno) {
	if !mayBeLimit(limit) {
		return api.Why{}, api.ErrArg
	}
	table := strata.Of(p.list())
	asked, ok := readThing(thing, table)
	if !ok {
		return api.Why{}, api.ErrAsk
	}
	known, ok := follow.Of(p.list(), table, limit)
	if !ok {
		return api.Why{}, api.ErrLimit
	}
	why := api.Why{Verdict: api.Out, Witness: witness.Of(p.list(), table, known, asked).Bytes()}
	if height, follows := known[asked]; follows {
		why.Verdict, why.Height = api.In, height
	}
	return why, api.OK
}

// readThing reads what is asked where there may be no variable.
func readThing(text string, table strata.Table) (thing.Thing, bool) {
	asked, ok := readAsked(text, table)
	if !ok {
		return thing.Thing{}, false
	}
	return thing.Of(asked)
}

// Check checks a witness (P8).
func Check(text string, thing string, witness []byte) int {
	p, e, _ := Load(text)
	if e != api.OK {
		return api.No
	}
	return p.shown(thing, witness)
}

// shown tells what the bytes of a witness show of the thing that is asked.
func (p *Program) shown(text string, list []byte) int {
	table := strata.Of(p.list())
	asked, ok := readThing(text, table)
	if !ok {
		return api.No
	}
	return witness.Shows(list, p.list(), table, asked)
}
