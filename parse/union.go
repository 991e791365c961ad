package parse

import (
	"marshal/api"
	"marshal/fault"
	"marshal/tree"
	"marshal/words"
)

func (r *reader) union(at int) *tree.Union {
	r.newType(at)
	d := &tree.Union{Name: r.name(r.define)}
	r.expect("switch")
	r.expect("(")
	by, fits := r.selector()
	claim := among()
	d.By = tree.Decl{Type: by, Name: r.name(claim)}
	r.expect(")")
	r.expect("{")
	numbers := map[int64]int{}
	for more := true; more; more = r.sees("case") {
		cases := r.cases(numbers, fits)
		d.Arms = append(d.Arms, tree.Arm{Cases: cases, Body: r.arm(claim)})
	}
	if r.accept("default") {
		r.expect(":")
		d.Arms = append(d.Arms, tree.Arm{Body: r.arm(claim)})
	}
	r.expect("}")
	r.expect(";")
	return d
}

// selector reads the type of a union's number, and gives with it what the number can be.
func (r *reader) selector() (tree.Type, func(n int64) bool) {
	w := r.words.Next()
	if w.Kind == words.Name {
		return tree.Named{Name: titled(w)}, r.enum(w).Has
	}
	switch w.Text {
	case "int":
		return tree.Plain{Kind: tree.Int}, within(lowest, highestInt)
	case "unsigned":
		r.accept("int")
		return tree.Plain{Kind: tree.Unsigned}, within(0, highest)
	case "bool":
		return tree.Plain{Kind: tree.Bool}, within(0, 1)
	}
	panic(fault.New(api.ErrSyntax, w.At))
}

// enum gives the enumeration that a word names.
func (r *reader) enum(w words.Word) *tree.Enum {
	switch d := r.names[w.Text].(type) {
	case *tree.Enum:
		return d
	}
	panic(fault.New(api.ErrName, w.At))
}

// cases reads what stands ahead of an arm; numbers holds those of the whole union.
func (r *reader) cases(numbers map[int64]int, fits func(n int64) bool) []int64 {
	var cases []int64
	for more := true; more; more = r.sees("case") {
		w := r.expect("case")
		room(len(numbers), api.MaxMembers, w.At)
		cases = append(cases, r.number(numbers, fits))
		r.expect(":")
	}
	return cases
}

// arm reads an arm and the sign behind it.
func (r *reader) arm(claim func(w words.Word)) tree.Decl {
	d := tree.Decl{Type: tree.Void{}}
	if !r.accept("void") {
		d = r.declaration(claim)
	}
	r.expect(";")
	return d
}
