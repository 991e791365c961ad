package parse

import (
	"marshal/api"
	"marshal/tree"
	"marshal/words"
)

func (r *reader) program(at int) *tree.Program {
	room(len(r.programs), api.MaxPrograms, at)
	d := &tree.Program{Name: r.name(r.define)}
	claim, numbers := among(), map[int64]int{}
	r.block(api.MaxPrograms, func() {
		d.Versions = append(d.Versions, r.version(claim, numbers))
	})
	d.Number = r.ending(r.programs)
	return d
}

func (r *reader) version(claim func(w words.Word), numbers map[int64]int) tree.Version {
	r.expect("version")
	v := tree.Version{Name: r.name(claim)}
	claimProc, procNumbers := among(), map[int64]int{}
	r.block(api.MaxProcs, func() {
		v.Procs = append(v.Procs, r.procedure(claimProc, procNumbers))
	})
	v.Number = r.ending(numbers)
	return v
}

func (r *reader) procedure(claim func(w words.Word), numbers map[int64]int) tree.Proc {
	p := tree.Proc{Result: r.side(), Name: r.name(claim)}
	r.expect("(")
	p.Arg = r.side()
	r.expect(")")
	p.Number = r.ending(numbers)
	return p
}

// ending reads the number with which a program, a version or a procedure ends.
func (r *reader) ending(numbers map[int64]int) int64 {
	r.expect("=")
	n := r.number(numbers, within(0, highest))
	r.expect(";")
	return n
}

func (r *reader) side() tree.Type {
	if r.accept("void") {
		return tree.Void{}
	}
	return r.typeWord()
}
