package compile

import (
	"math"

	"marshal/machine"
	"marshal/tree"
)

// value lays down what goes through a value of a type; of void there is none.
func (c *compiler) value(t tree.Type) {
	switch t := t.(type) {
	case tree.Named:
		c.call(t.Text)
	case tree.Plain:
		c.put(number(t.Kind))
	case tree.Opaque:
		c.put(machine.Text{Bound: t.Bound})
	case tree.String:
		c.put(machine.Text{Bound: t.Bound})
	case tree.Array:
		c.array(t)
	case tree.Optional:
		c.optional(t)
	}
}

func (c *compiler) array(t tree.Array) {
	at := c.put(machine.Array{})
	c.value(t.Of)
	c.put(machine.Again{})
	c.code[at] = machine.Array{Bound: t.Bound, To: c.here()}
}

func (c *compiler) optional(t tree.Optional) {
	at := c.put(machine.Choice{})
	c.value(t.Of)
	ways := map[int64]machine.Way{0: {To: c.here(), Values: 0}, 1: {To: at + 1, Values: 1}}
	c.code[at] = machine.Choice{Number: number(tree.Bool), Ways: ways}
}

// number gives what a plain type's numbers are. Those of an unsigned hyper are any 64 bits, too: a node has no others.
func number(k tree.Kind) machine.Number {
	switch k {
	case tree.Int:
		return machine.Number{Low: math.MinInt32, High: math.MaxInt32}
	case tree.Unsigned:
		return machine.Number{Low: 0, High: math.MaxUint32}
	case tree.Bool:
		return machine.Number{Low: 0, High: 1}
	}
	return machine.Number{Low: math.MinInt64, High: math.MaxInt64, Wide: true}
}
