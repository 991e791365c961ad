package machine

import (
	"slices"

	"marshal/tree"
)

// Step is one step of the code: one of the kinds below. Where a step goes on elsewhere than behind it, To is the place in the code.
type Step interface {
	run(m *machine)
}

// Call goes through what a name names.
type Call struct {
	To int
}

func (s Call) run(m *machine) {
	m.worker.Enter(m.calls.Len())
	m.calls.Push(m.next)
	m.next = s.To
}

// Return stands behind what a name names.
type Return struct{}

func (s Return) run(m *machine) { m.next = m.calls.Pop() }

// End stands behind the whole value.
type End struct{}

func (s End) run(m *machine) { m.ended = true }

// Jump goes on elsewhere.
type Jump struct {
	To int
}

func (s Jump) run(m *machine) { m.next = s.To }

// Number is a number from Low to High, and of an enumeration one of its Members; a Wide one has two words.
type Number struct {
	Low, High int64
	Members   []int64
	Wide      bool
}

// Has tells whether it can be this number.
func (s Number) Has(n int64) bool {
	return s.Low <= n && n <= s.High && (s.Members == nil || slices.Contains(s.Members, n))
}

// Of gives the number of a word: where there are numbers below nought, its highest bit is their sign.
func (s Number) Of(word uint32) int64 {
	if s.Low < 0 {
		return int64(int32(word))
	}
	return int64(word)
}

func (s Number) run(m *machine) { m.worker.Number(s) }

// Text is an opaque or a string.
type Text struct {
	Bound tree.Bound
}

func (s Text) run(m *machine) { m.worker.Text(s.Bound) }

// Struct is a structure's list: its members stand behind it, one by one.
type Struct struct {
	Bound tree.Bound
}

func (s Struct) run(m *machine) { m.worker.List(s.Bound) }

// Array is an array's list: what all its values are stands behind it, once, and then Again. Without a value it goes on at To.
type Array struct {
	Bound tree.Bound
	To    int
}

func (s Array) run(m *machine) {
	values := m.worker.List(s.Bound)
	if values == 0 {
		m.next = s.To
		return
	}
	m.rounds.Push(round{from: m.next, left: values})
}

// Again ends a round of the innermost array.
type Again struct{}

func (s Again) run(m *machine) {
	r := m.rounds.Pop()
	r.left--
	if r.left > 0 {
		m.next = r.from
		m.rounds.Push(r)
	}
}

// Choice is an arm: of a union, or of what may be missing, which is one that has no value at 0 and one at 1. Other is the way of all numbers without one of their own; nil, if they have none.
type Choice struct {
	Number Number
	Ways   map[int64]Way
	Other  *Way
}

// Way is how a choice goes on: with so many values (none of void, else one).
type Way struct {
	To, Values int
}

// Way gives that of a number, if it has one.
func (s Choice) Way(n int64) (Way, bool) {
	if !s.Number.Has(n) {
		return Way{}, false
	}
	way, ok := s.Ways[n]
	if !ok && s.Other != nil {
		return *s.Other, true
	}
	return way, ok
}

func (s Choice) run(m *machine) { m.next = m.worker.Arm(s).To }
