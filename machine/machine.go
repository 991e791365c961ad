// Package machine runs what a text is compiled to. It knows in which order a value is gone through; what is done at each part of it, a worker knows.
package machine

import "marshal/tree"

// Code is what a text is compiled to.
type Code []Step

// Worker does what is to be done at each part of a value. What is wrong it throws: see package fault.
type Worker interface {
	// Enter is told of a name, and within how many others it stands.
	Enter(within int)
	// Number goes through a number.
	Number(s Number)
	// Text goes through an opaque or a string.
	Text(b tree.Bound)
	// List goes through a list, and gives how many values it has.
	List(b tree.Bound) int
	// Arm goes through an arm, and gives the way that it goes.
	Arm(s Choice) Way
}

// machine has no recursion: how deep a value goes is seen in its stacks alone.
type machine struct {
	worker Worker
	next   int          // the place of the next step
	calls  Stack[int]   // where to go on behind each name that is gone through
	rounds Stack[round] // the arrays that are gone through
	ended  bool
}

// round is where an array's values begin, and how many are left.
type round struct {
	from, left int
}

// Run goes through a value, from a place in the code on.
func (c Code) Run(start int, w Worker) {
	m := &machine{worker: w, next: start}
	for !m.ended {
		s := c[m.next]
		m.next++
		s.run(m)
	}
}
