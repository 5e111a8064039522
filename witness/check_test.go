package witness

import (
	"reflect"
	"slices"
	"testing"

	"affidavit/api"
	"affidavit/read"
	"affidavit/rule"
	"affidavit/strata"
	"affidavit/thing"
)

func rulesOf(t *testing.T, text string) []rule.Rule {
	t.Helper()
	got, place, ok := read.Rules(text)
	if !ok {
		t.Fatalf("no text: %q, at %d", text, place)
	}
	return got.Rules
}

func TestFromBytes(t *testing.T) {
	rules := rulesOf(t, "p. q :- p. r :- p, not s, q.")
	for _, c := range []struct {
		list []byte
		want Witness
		ok   bool
	}{
		{nil, Witness{}, false},
		{[]byte{0}, Witness{}, false},
		{[]byte{0, 0}, Witness{}, true},
		{[]byte{255, 0}, Witness{K: 255}, true},
		{[]byte{0, 0, 0}, Witness{}, false},
		{[]byte{0, 1}, Witness{}, false},
		{[]byte{0, 1, 3}, Witness{}, false},
		{[]byte{0, 1, 1}, Witness{}, false},
		{[]byte{0, 1, 2, 0}, Witness{}, false},
		{[]byte{0, 2, 0}, Witness{}, false},
		{[]byte{0, 1, 0, 0}, Witness{}, false},
		{[]byte{1, 3, 0, 1, 0, 2, 255, 1}, Witness{K: 1, Nodes: []Node{{Rule: 0}, {Rule: 1, Named: []int{0}}, {Rule: 2, Named: []int{255, 1}}}}, true},
		{append([]byte{0, api.MaxAtoms + 1}, make([]byte, api.MaxAtoms+1)...), Witness{}, false},
		{append([]byte{0, api.MaxAtoms}, make([]byte, api.MaxAtoms)...), Witness{Nodes: make([]Node, api.MaxAtoms)}, true},
	} {
		got, ok := fromBytes(c.list, rules)
		if ok != c.ok || !reflect.DeepEqual(got, c.want) {
			t.Errorf("of %v: %+v, %v, want %+v, %v", c.list, got, ok, c.want, c.ok)
		}
		if ok && !slices.Equal(got.Bytes(), c.list) {
			t.Errorf("of %v: the bytes %v", c.list, got.Bytes())
		}
	}
}

func TestTake(t *testing.T) {
	r := rulesOf(t, "h(X,Z) :- p(X,Y), p(Y,Z).")[0]
	ahead := []step{{says: thing.Thing{"p", "a", "b"}}, {says: thing.Thing{"p", "b", "c"}}, {says: thing.Thing{"q", "b", "c"}}}
	got, ok := take(r, []int{0, 1}, ahead)
	if !ok || got.says != (thing.Thing{"h", "a", "c"}) {
		t.Errorf("it says %v, %v", got.says, ok)
	}
	for _, named := range [][]int{{1, 0}, {0, 0}, {0, 2}, {0, 3}, {3, 0}, {255, 255}} {
		if got, ok := take(r, named, ahead); ok {
			t.Errorf("with %v named it says %v", named, got.says)
		}
	}
}

func TestShows(t *testing.T) {
	rules := rulesOf(t, "p(b). p(a). q(X) :- p(X), not r(X). r(b). s :- q(X).")
	table := strata.Of(rules)
	for _, c := range []struct {
		asked thing.Thing
		list  []byte
		want  int
	}{
		{thing.Thing{"p", "a"}, []byte{0, 1, 1}, api.In},
		{thing.Thing{"p", "b"}, []byte{0, 1, 1}, api.No},
		{thing.Thing{"p", "c"}, []byte{0, 1, 1}, api.No},
		{thing.Thing{"p", "c"}, []byte{1, 1, 1}, api.No},
		{thing.Thing{"p", "c"}, []byte{1, 3, 1, 0, 3}, api.Out},
		{thing.Thing{"q", "a"}, []byte{1, 4, 1, 0, 3, 2, 0}, api.In},
		{thing.Thing{"q", "a"}, []byte{0, 4, 1, 0, 3, 2, 0}, api.No},
		{thing.Thing{"q", "b"}, []byte{1, 4, 1, 0, 3, 2, 1}, api.No},
		{thing.Thing{"q", "b"}, []byte{1, 4, 1, 0, 3, 2, 0}, api.No},
		{thing.Thing{"q", "b"}, []byte{2, 4, 1, 0, 3, 2, 0}, api.No},
		{thing.Thing{"q", "b"}, []byte{2, 5, 1, 0, 3, 2, 0, 4, 3}, api.Out},
		{thing.Thing{"q", "b"}, []byte{3, 5, 1, 0, 3, 2, 0, 4, 3}, api.No},
		{thing.Thing{"owl"}, []byte{0, 0}, api.Out},
		{thing.Thing{"owl"}, []byte{0, 2, 1, 1}, api.No},
		{thing.Thing{"owl"}, nil, api.No},
	} {
		if got := Shows(c.list, rules, table, c.asked); got != c.want {
			t.Errorf("%v shows of %v: %d, want %d", c.list, c.asked, got, c.want)
		}
	}
}
