// Package compile makes the code of a machine of definitions.
package compile

import (
	"math"

	"marshal/machine"
	"marshal/tree"
)

// Unit is what a text is compiled to.
type Unit struct {
	Code     machine.Code
	Types    map[string]int     // by the name of a type where its code starts
	Programs map[uint32]Program // by their numbers
}

// compiler lays down steps one behind the other.
type compiler struct {
	code   machine.Code
	bodies map[string]int            // by name where what it names begins
	enums  map[string]machine.Number // by name what an enumeration's numbers are
	calls  []call
}

// call is a place at which a name is called.
type call struct {
	at   int
	name string
}

// Text compiles the definitions of a text.
func Text(defs []tree.Def) Unit {
	c := &compiler{bodies: map[string]int{}, enums: map[string]machine.Number{}}
	for _, d := range defs {
		c.definition(d)
	}
	types, programs := c.types(defs), c.programs(defs)
	c.link()
	return Unit{Code: c.code, Types: types, Programs: programs}
}

// types gives by the name of each type where its code starts.
func (c *compiler) types(defs []tree.Def) map[string]int {
	starts := map[string]int{}
	for _, d := range defs {
		name := d.Title()
		if _, ok := c.bodies[name.Text]; ok {
			starts[name.Text] = c.start(tree.Named{Name: name})
		}
	}
	return starts
}

// put lays a step down, and gives its place.
func (c *compiler) put(s machine.Step) int {
	c.code = append(c.code, s)
	return len(c.code) - 1
}

// here is the place of the next step.
func (c *compiler) here() int { return len(c.code) }

// call lays down a call; where it goes is put in when all is laid down, since a name may stand ahead of what it names.
func (c *compiler) call(name string) {
	c.calls = append(c.calls, call{at: c.put(machine.Call{}), name: name})
}

func (c *compiler) link() {
	for _, k := range c.calls {
		c.code[k.at] = machine.Call{To: c.bodies[k.name]}
	}
}

// start lays down a whole value of a type: of a name, so that the name itself counts, too, and of void nothing but the end.
func (c *compiler) start(t tree.Type) int {
	at := c.here()
	c.value(t)
	c.put(machine.End{})
	return at
}

// definition lays down what a name names; of what is no type there is nothing.
func (c *compiler) definition(d tree.Def) {
	at := c.here()
	switch d := d.(type) {
	case *tree.Typedef:
		c.value(d.Type)
	case *tree.Enum:
		c.enums[d.Text] = members(d)
		c.put(c.enums[d.Text])
	case *tree.Struct:
		c.structure(d)
	case *tree.Union:
		c.union(d)
	default:
		return
	}
	c.put(machine.Return{})
	c.bodies[d.Title().Text] = at
}

func members(d *tree.Enum) machine.Number {
	s := machine.Number{Low: math.MinInt32, High: math.MaxInt32}
	for _, m := range d.Members {
		s.Members = append(s.Members, m.Value)
	}
	return s
}

func (c *compiler) structure(d *tree.Struct) {
	c.put(machine.Struct{Bound: tree.Bound{N: int64(len(d.Members)), Fixed: true}})
	for _, m := range d.Members {
		c.value(m.Type)
	}
}

// union lays down a choice, and behind it the arms, each with a jump to the end.
func (c *compiler) union(d *tree.Union) {
	s := machine.Choice{Number: c.selector(d.By.Type), Ways: map[int64]machine.Way{}}
	at := c.put(s)
	var ends []int
	for _, a := range d.Arms {
		way := c.arm(a)
		ends = append(ends, c.put(machine.Jump{}))
		for _, n := range a.Cases {
			s.Ways[n] = way
		}
		if len(a.Cases) == 0 {
			s.Other = &way
		}
	}
	c.code[at] = s
	for _, end := range ends {
		c.code[end] = machine.Jump{To: c.here()}
	}
}

// arm lays down what an arm has.
func (c *compiler) arm(a tree.Arm) machine.Way {
	way := machine.Way{To: c.here(), Values: 1}
	switch a.Body.Type.(type) {
	case tree.Void:
		way.Values = 0
	default:
		c.value(a.Body.Type)
	}
	return way
}

// selector gives what a union's number can be; an enumeration stands ahead of it (P5).
func (c *compiler) selector(t tree.Type) machine.Number {
	switch t := t.(type) {
	case tree.Named:
		return c.enums[t.Text]
	case tree.Plain:
		return number(t.Kind)
	}
	return machine.Number{}
}
