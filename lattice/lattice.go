// Package lattice holds a trellis code's steps, asked once, for those who go through all of them again and again.
package lattice

import (
	"foghorn/api"
	"foghorn/trellis"
)

// MaxStates is how many states a code has at most.
const MaxStates = 1 << (trellis.MaxLength - 1)

// Step is what a bit makes of a state.
type Step struct {
	Next     int
	One, Two bool
}

// Lattice is all steps of a code: from each state, with false and with true.
type Lattice struct {
	States int
	Ending int // the steps that end a message
	Steps  [MaxStates][2]Step
}

// Of is the lattice of a code.
func Of(c trellis.Code) (*Lattice, api.Errno) {
	states, e := c.States()
	if e != api.OK {
		return nil, e
	}
	l := &Lattice{States: states, Ending: c.Length - 1}
	for state := range states {
		for n, bit := range [2]bool{false, true} {
			next, one, two, e := c.Step(state, bit)
			if e != api.OK {
				return nil, e
			}
			l.Steps[state][n] = Step{Next: next, One: one, Two: two}
		}
	}
	return l, api.OK
}
