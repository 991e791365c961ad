package tree

import (
	"strconv"
	"strings"
)

// putter takes the next words of what is written.
type putter func(words ...string)

// Print writes definitions, each on a line of its own (P7).
func Print(defs []Def) string {
	var out strings.Builder
	for _, d := range defs {
		last := ""
		d.words(func(words ...string) {
			for _, w := range words {
				if apart(last, w) {
					out.WriteByte(' ')
				}
				out.WriteString(w)
				last = w
			}
		})
		out.WriteByte('\n')
	}
	return out.String()
}

// apart tells whether a blank stands between two words; ahead of the first one (left is empty then) there is none.
func apart(left, right string) bool {
	switch left {
	case "", "(", "[", "<", "*":
		return false
	}
	switch right {
	case ";", ",", ":", ")", "[", "]", "<", ">":
		return false
	case "(":
		return left == "switch" // the other one is a procedure's
	}
	return true
}

func digits(n int64) string { return strconv.FormatInt(n, 10) }

func (d *Const) words(put putter) { put("const", d.Text, "=", digits(d.Value), ";") }

func (d *Typedef) words(put putter) {
	put("typedef")
	d.Decl.words(put)
	put(";")
}

func (d *Enum) words(put putter) {
	put("enum", d.Text, "{")
	for i, m := range d.Members {
		if i > 0 {
			put(",")
		}
		put(m.Text, "=", digits(m.Value))
	}
	put("}", ";")
}

func (d *Struct) words(put putter) {
	put("struct", d.Text, "{")
	for _, m := range d.Members {
		m.words(put)
		put(";")
	}
	put("}", ";")
}

func (d *Union) words(put putter) {
	put("union", d.Text, "switch", "(")
	d.By.words(put)
	put(")", "{")
	for _, a := range d.Arms {
		a.words(put)
	}
	put("}", ";")
}

func (a Arm) words(put putter) {
	for _, n := range a.Cases {
		put("case", digits(n), ":")
	}
	if len(a.Cases) == 0 {
		put("default", ":")
	}
	a.Body.words(put)
	put(";")
}

func (d *Program) words(put putter) {
	put("program", d.Text, "{")
	for _, v := range d.Versions {
		v.words(put)
	}
	put("}", "=", digits(d.Number), ";")
}

func (v Version) words(put putter) {
	put("version", v.Text, "{")
	for _, p := range v.Procs {
		put(side(p.Result), p.Text, "(", side(p.Arg), ")", "=", digits(p.Number), ";")
	}
	put("}", "=", digits(v.Number), ";")
}

func (d Decl) words(put putter) {
	switch t := d.Type.(type) {
	case Opaque:
		put("opaque", d.Text)
		t.Bound.words(put)
	case String:
		put("string", d.Text)
		t.Bound.words(put)
	case Array:
		put(side(t.Of), d.Text)
		t.Bound.words(put)
	case Optional:
		put(side(t.Of), "*", d.Text)
	case Void:
		put(side(t))
	default:
		put(side(t), d.Text)
	}
}

func (b Bound) words(put putter) {
	if b.Fixed {
		put("[", digits(b.N), "]")
	} else {
		put("<", digits(b.N), ">")
	}
}

// side writes a type that can stand without a name.
func side(t Type) string {
	switch t := t.(type) {
	case Named:
		return t.Text
	case Plain:
		return t.Kind.word()
	}
	return "void"
}

func (k Kind) word() string {
	switch k {
	case Int:
		return "int"
	case Unsigned:
		return "unsigned"
	case Hyper:
		return "hyper"
	case UnsignedHyper:
		return "unsigned hyper"
	}
	return "bool"
}
