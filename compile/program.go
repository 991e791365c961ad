package compile

import "marshal/tree"

// Program is what may be called of a program: its versions by their numbers, of which there is at least one.
type Program struct {
	Least, Greatest uint32
	Versions        map[uint32]Version
}

// Version is what may be called of a version: its procedures by their numbers.
type Version map[uint32]Proc

// Proc is where the code of a procedure's two sides starts.
type Proc struct {
	Arg, Result int
}

func (c *compiler) programs(defs []tree.Def) map[uint32]Program {
	programs := map[uint32]Program{}
	for _, d := range defs {
		switch d := d.(type) {
		case *tree.Program:
			programs[uint32(d.Number)] = c.program(d)
		}
	}
	return programs
}

func (c *compiler) program(d *tree.Program) Program {
	first := uint32(d.Versions[0].Number)
	p := Program{Least: first, Greatest: first, Versions: map[uint32]Version{}}
	for _, v := range d.Versions {
		n := uint32(v.Number)
		p.Least, p.Greatest = min(p.Least, n), max(p.Greatest, n)
		p.Versions[n] = c.version(v)
	}
	return p
}

func (c *compiler) version(v tree.Version) Version {
	procs := Version{}
	for _, p := range v.Procs {
		procs[uint32(p.Number)] = Proc{Arg: c.start(p.Arg), Result: c.start(p.Result)}
	}
	return procs
}
