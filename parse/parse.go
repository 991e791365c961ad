// Package parse makes a tree of a text (P3 to P6). What is wrong is thrown: see package fault.
package parse

import (
	"marshal/api"
	"marshal/fault"
	"marshal/tree"
	"marshal/words"
)

// reader goes through a text word by word. It says all that is to be said of a word ahead of looking at the next one, since the first word at which something is wrong is the one that counts.
type reader struct {
	words    *words.Scanner
	names    map[string]tree.Def // by name what it defines; nil from its place on, until that is read
	types    int
	consts   int
	programs map[int64]int // by number its place
}

// Text gives the definitions of a text.
func Text(text string) []tree.Def {
	if len(text) > api.MaxText {
		panic(fault.New(api.ErrLong, 0))
	}
	r := &reader{words: words.New(text), names: map[string]tree.Def{}, programs: map[int64]int{}}
	var defs []tree.Def
	for r.words.Peek().Kind != words.End {
		d := r.definition()
		r.names[d.Title().Text] = d
		defs = append(defs, d)
	}
	r.lookUpTypes(defs)
	r.findEndless(defs)
	return defs
}

func (r *reader) definition() tree.Def {
	w := r.words.Next()
	switch w.Text {
	case "const":
		return r.constant(w.At)
	case "typedef":
		return r.typedef(w.At)
	case "enum":
		return r.enumeration(w.At)
	case "struct":
		return r.structure(w.At)
	case "union":
		return r.union(w.At)
	case "program":
		return r.program(w.At)
	}
	panic(fault.New(api.ErrSyntax, w.At))
}

// newType counts a typedef, enum, struct or union.
func (r *reader) newType(at int) {
	room(r.types, api.MaxTypes, at)
	r.types++
}

// newConst counts a const or a member of an enumeration.
func (r *reader) newConst(at int) {
	room(r.consts, api.MaxConsts, at)
	r.consts++
}

func (r *reader) constant(at int) *tree.Const {
	r.newConst(at)
	c := &tree.Const{Name: r.name(r.define)}
	r.expect("=")
	c.Value, _ = r.value(within(lowest, highest))
	r.expect(";")
	return c
}

func (r *reader) typedef(at int) *tree.Typedef {
	r.newType(at)
	d := &tree.Typedef{Decl: r.declaration(r.define)}
	r.expect(";")
	return d
}

func (r *reader) enumeration(at int) *tree.Enum {
	r.newType(at)
	d := &tree.Enum{Name: r.name(r.define)}
	r.expect("{")
	numbers := map[int64]int{}
	for more := true; more; more = r.accept(",") {
		d.Members = append(d.Members, r.member(len(d.Members), numbers))
	}
	r.expect("}")
	r.expect(";")
	return d
}

// member reads a member of an enumeration; it is a constant from then on.
func (r *reader) member(have int, numbers map[int64]int) *tree.Const {
	at := r.words.Peek().At
	room(have, api.MaxMembers, at)
	r.newConst(at)
	c := &tree.Const{Name: r.name(r.define)}
	r.expect("=")
	c.Value = r.number(numbers, within(lowest, highestInt))
	r.names[c.Text] = c
	return c
}

func (r *reader) structure(at int) *tree.Struct {
	r.newType(at)
	d := &tree.Struct{Name: r.name(r.define)}
	claim := among()
	r.block(api.MaxMembers, func() {
		d.Members = append(d.Members, r.declaration(claim))
		r.expect(";")
	})
	r.expect(";")
	return d
}
