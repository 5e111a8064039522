package witness

import (
	"slices"
	"testing"

	"affidavit/api"
	"affidavit/follow"
	"affidavit/read"
	"affidavit/strata"
	"affidavit/thing"
)

func TestBytes(t *testing.T) {
	for _, c := range []struct {
		w    Witness
		want []byte
	}{
		{Witness{}, []byte{0, 0}},
		{Witness{K: 3}, []byte{3, 0}},
		{Witness{K: 1, Nodes: []Node{{Rule: 29}, {Rule: 2, Named: []int{0}}, {Rule: 0, Named: []int{1, 0, 1}}}}, []byte{1, 3, 29, 2, 0, 0, 1, 0, 1}},
	} {
		if got := c.w.Bytes(); !slices.Equal(got, c.want) {
			t.Errorf("%+v.Bytes() = %v, want %v", c.w, got, c.want)
		}
	}
}

func TestOf(t *testing.T) {
	text, _, ok := read.Rules("p(b). p(a). q(X) :- p(X), not r(X). r(b). s :- q(X). s :- p(X), q(X).")
	if !ok {
		t.Fatal("no text")
	}
	table := strata.Of(text.Rules)
	known, _ := follow.Of(text.Rules, table, api.MaxAtoms)
	for _, c := range []struct {
		asked thing.Thing
		want  []byte
	}{
		{thing.Thing{"p", "a"}, []byte{0, 1, 1}},
		{thing.Thing{"p", "c"}, []byte{1, 3, 1, 0, 3}},
		{thing.Thing{"q", "a"}, []byte{1, 4, 1, 0, 3, 2, 0}},
		{thing.Thing{"q", "b"}, []byte{2, 5, 1, 0, 3, 2, 0, 4, 3}},
		{thing.Thing{"s"}, []byte{1, 5, 1, 0, 3, 2, 0, 4, 3}},
		{thing.Thing{"owl"}, []byte{0, 0}},
	} {
		if got := Of(text.Rules, table, known, c.asked).Bytes(); !slices.Equal(got, c.want) {
			t.Errorf("the witness of %v: %v, want %v", c.asked, got, c.want)
		}
	}
}
