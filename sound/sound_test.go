package sound

import (
	"testing"

	"affidavit/api"
	"affidavit/read"
)

func TestFault(t *testing.T) {
	for _, c := range []struct {
		text  string
		want  api.Errno
		place int
	}{
		{"", api.OK, 0},
		{"p(X) :- q(X), not r(X). q(a).", api.OK, 0},
		{"p :- q. q(a). q(a,b).", api.ErrArity, 8},
		{"p(a) :- q(a, X), not r( Y, X).", api.ErrUnsafe, 24},
		{"p :- q, not r. r :- s. s :- not p.", api.ErrCycle, 8},
		{"p :- not p. p(X).", api.ErrArity, 12},
		{"p(a) :- not p(a). q(X).", api.ErrUnsafe, 20},
	} {
		text, _, ok := read.Rules(c.text)
		if !ok {
			t.Errorf("%q was not read", c.text)
			continue
		}
		if e, place := Fault(text); e != c.want || place != c.place {
			t.Errorf("Fault of %q = %d, %d, want %d, %d", c.text, e, place, c.want, c.place)
		}
	}
}
