package parse

import (
	"marshal/api"
	"marshal/fault"
	"marshal/tree"
	"marshal/words"
)

// declaration reads a DECL; its name is claimed where it stands.
func (r *reader) declaration(claim func(w words.Word)) tree.Decl {
	if r.accept("opaque") {
		name := r.name(claim)
		return tree.Decl{Name: name, Type: tree.Opaque{Bound: r.bound()}}
	}
	if r.accept("string") {
		name := r.name(claim)
		return tree.Decl{Name: name, Type: tree.String{Bound: r.most()}}
	}
	of := r.typeWord()
	if r.accept("*") {
		return tree.Decl{Name: r.name(claim), Type: tree.Optional{Of: of}}
	}
	name := r.name(claim)
	if r.sees("[") || r.sees("<") {
		return tree.Decl{Name: name, Type: tree.Array{Of: of, Bound: r.bound()}}
	}
	return tree.Decl{Name: name, Type: of}
}

// bound reads [ ] or < >.
func (r *reader) bound() tree.Bound {
	if !r.accept("[") {
		return r.most()
	}
	n, _ := r.value(within(1, api.MaxFixed))
	r.expect("]")
	return tree.Bound{N: n, Fixed: true}
}

// most reads < >; without a number it has the greatest one.
func (r *reader) most() tree.Bound {
	r.expect("<")
	if r.accept(">") {
		return tree.Bound{N: highest}
	}
	n, _ := r.value(within(0, highest))
	r.expect(">")
	return tree.Bound{N: n}
}

// typeWord reads a TYPE. What a name names may still follow, so it is looked up at the end.
func (r *reader) typeWord() tree.Type {
	w := r.words.Next()
	if w.Kind == words.Name {
		return tree.Named{Name: titled(w)}
	}
	switch w.Text {
	case "int":
		return tree.Plain{Kind: tree.Int}
	case "hyper":
		return tree.Plain{Kind: tree.Hyper}
	case "bool":
		return tree.Plain{Kind: tree.Bool}
	case "unsigned":
		if r.accept("hyper") {
			return tree.Plain{Kind: tree.UnsignedHyper}
		}
		r.accept("int")
		return tree.Plain{Kind: tree.Unsigned}
	}
	panic(fault.New(api.ErrSyntax, w.At))
}
