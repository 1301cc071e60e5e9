package lattice_test

import (
	"testing"

	"foghorn/api"
	"foghorn/lattice"
	"foghorn/trellis"
)

func TestOf(t *testing.T) {
	for _, c := range []trellis.Code{trellis.Short(), trellis.Long(), {Length: 2, One: 1, Two: 2}} {
		l, e := lattice.Of(c)
		if e != api.OK || l.States != 1<<(c.Length-1) || l.Ending != c.Length-1 {
			t.Fatal("Of:", c, e)
		}
		for state := range l.States {
			for n, s := range l.Steps[state] {
				if next, one, two, _ := c.Step(state, n == 1); s != (lattice.Step{Next: next, One: one, Two: two}) {
					t.Error("a step:", c, state, n, s)
				}
			}
		}
	}
	if l, e := lattice.Of(trellis.Code{}); l != nil || e != api.ErrArg {
		t.Error("Of no code:", e)
	}
}
