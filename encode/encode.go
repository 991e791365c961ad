// Package encode makes bytes of a value (P8). What is wrong is thrown: see package fault.
package encode

import (
	"marshal/api"
	"marshal/fault"
	"marshal/machine"
	"marshal/tree"
)

// encoder is the worker that takes nodes and writes bytes.
type encoder struct {
	nodes []api.Node
	next  int // the place of the next node
	lim   api.Limits
	out   []byte
}

// Value gives the bytes of a value, gone through by the code from start on.
func Value(code machine.Code, start int, v []api.Node, lim api.Limits) string {
	e := &encoder{nodes: v, lim: lim}
	code.Run(start, e)
	if e.next < len(v) {
		panic(fault.New(api.ErrType, e.next))
	}
	return string(e.out)
}

// Enter makes sure that a name is not too deep.
func (e *encoder) Enter(within int) {
	if within >= e.lim.Depth {
		panic(fault.New(api.ErrDepth, e.next))
	}
}

// Number writes a number.
func (e *encoder) Number(s machine.Number) {
	n := e.take(api.KNum, func(n api.Node) bool { return s.Has(n.N) })
	if s.Wide {
		e.word(n.N >> 32)
	}
	e.word(n.N)
}

// Text writes an opaque or a string.
func (e *encoder) Text(b tree.Bound) {
	n := e.take(api.KText, func(n api.Node) bool { return b.Allows(len(n.S)) })
	if !b.Fixed {
		e.word(int64(len(n.S)))
	}
	e.padded(n.S)
}

// List writes how long a list is, unless that is fixed.
func (e *encoder) List(b tree.Bound) int {
	n := e.take(api.KList, func(n api.Node) bool { return b.Allows(n.Len) })
	if !b.Fixed {
		e.word(int64(n.Len))
	}
	return n.Len
}

// Arm writes the number of an arm.
func (e *encoder) Arm(s machine.Choice) machine.Way {
	var way machine.Way
	n := e.take(api.KArm, func(n api.Node) bool {
		var found bool
		way, found = s.Way(n.N)
		return found && n.Len == way.Values
	})
	e.word(n.N)
	return way
}

// take takes the next node, which must be of a kind, and fit.
func (e *encoder) take(kind int, fits func(n api.Node) bool) api.Node {
	if e.next >= e.lim.Fuel {
		panic(fault.New(api.ErrFuel, e.next))
	}
	if e.next >= len(e.nodes) {
		panic(fault.New(api.ErrType, e.next))
	}
	n := e.nodes[e.next]
	if n.Kind != kind || !fits(n) {
		panic(fault.New(api.ErrType, e.next))
	}
	e.next++
	return n
}

// room makes sure that so many bytes of the node that was taken may still be written.
func (e *encoder) room(bytes int) {
	if bytes > e.lim.Size-len(e.out) {
		panic(fault.New(api.ErrSize, e.next-1))
	}
}

// word writes the low 32 bits of a number.
func (e *encoder) word(n int64) {
	e.room(4)
	e.out = appendWord(e.out, uint32(n))
}

// padded writes bytes and their padding. There must be room for all of them ahead of the first: a text may be far longer than what may be written.
func (e *encoder) padded(text string) {
	whole := (len(text) + 3) / 4 * 4
	e.room(whole)
	e.out = append(e.out, text...)
	for range whole - len(text) {
		e.out = append(e.out, 0)
	}
}

// Words gives the bytes of words of 32 bits.
func Words(words ...uint32) string {
	var out []byte
	for _, w := range words {
		out = appendWord(out, w)
	}
	return string(out)
}

func appendWord(out []byte, w uint32) []byte {
	return append(out, byte(w>>24), byte(w>>16), byte(w>>8), byte(w))
}
