// Package decode makes a value of bytes (P9). What is wrong is thrown: see package fault.
package decode

import (
	"marshal/api"
	"marshal/cursor"
	"marshal/fault"
	"marshal/machine"
	"marshal/tree"
)

// decoder is the worker that goes through bytes and makes nodes of them.
type decoder struct {
	cursor.Cursor
	lim   api.Limits
	nodes []api.Node
}

// Value gives the value of bytes, gone through by the code from start on.
func Value(code machine.Code, start int, b string, lim api.Limits) []api.Node {
	if len(b) > lim.Size {
		panic(fault.New(api.ErrSize, 0))
	}
	d := &decoder{Cursor: cursor.New(b), lim: lim}
	code.Run(start, d)
	if d.Left() > 0 {
		panic(fault.New(api.ErrTail, d.At()))
	}
	return d.nodes
}

// Enter makes sure that a name is not too deep.
func (d *decoder) Enter(within int) {
	if within >= d.lim.Depth {
		panic(fault.New(api.ErrDepth, d.At()))
	}
}

// Number makes a number.
func (d *decoder) Number(s machine.Number) {
	d.begin()
	at := d.At()
	n := d.number(s)
	if !s.Has(n) {
		panic(fault.New(api.ErrWrong, at))
	}
	d.put(api.Node{Kind: api.KNum, N: n})
}

func (d *decoder) number(s machine.Number) int64 {
	if s.Wide {
		return int64(d.Wide())
	}
	return s.Of(d.Word())
}

// Text makes a text of an opaque or a string.
func (d *decoder) Text(b tree.Bound) {
	d.begin()
	n := d.count(b)
	at := d.At()
	d.put(api.Node{Kind: api.KText, S: d.Padded(n), At: at})
}

// List makes a list; its values follow.
func (d *decoder) List(b tree.Bound) int {
	d.begin()
	n := d.count(b)
	d.put(api.Node{Kind: api.KList, Len: n})
	return n
}

// Arm makes an arm; its value, if it has one, follows.
func (d *decoder) Arm(s machine.Choice) machine.Way {
	d.begin()
	at := d.At()
	n := s.Number.Of(d.Word())
	way, ok := s.Way(n)
	if !ok {
		panic(fault.New(api.ErrWrong, at))
	}
	d.put(api.Node{Kind: api.KArm, N: n, Len: way.Values})
	return way
}

// begin makes sure that there may be one more node, ahead of its bytes.
func (d *decoder) begin() {
	if len(d.nodes) >= d.lim.Fuel {
		panic(fault.New(api.ErrFuel, d.At()))
	}
}

func (d *decoder) put(n api.Node) { d.nodes = append(d.nodes, n) }

// count gives how many bytes or values there are; there is a word for it unless they are always as many.
func (d *decoder) count(b tree.Bound) int {
	if b.Fixed {
		return int(b.N)
	}
	at := d.At()
	n := int(d.Word())
	if !b.Allows(n) {
		panic(fault.New(api.ErrCount, at))
	}
	return n
}
