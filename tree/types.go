// Package tree: what a text says, as a tree of definitions and types, and how it is written (P7).
package tree

// Name is a name and its place in the text.
type Name struct {
	Text string
	At   int
}

// Title gives the name of what it is embedded in.
func (n Name) Title() Name { return n }

// Type is what a value can be: one of the kinds below.
type Type interface {
	// Names tells the names of other types that stand in it, in their order.
	Names(tell func(Name))
	// Leads tells those of them without a value of which there is no value of it (P6).
	Leads(tell func(Name))
}

// alone is embedded in what names no type.
type alone struct{}

func (alone) Names(tell func(Name)) {}

func (alone) Leads(tell func(Name)) {}

// Kind is the kind of a plain type.
type Kind int

const (
	Int Kind = iota
	Unsigned
	Hyper
	UnsignedHyper
	Bool
)

// Plain is a type of numbers.
type Plain struct {
	alone
	Kind Kind
}

// Named is a type that is called by its name.
type Named struct {
	Name
}

// Names tells the name itself.
func (t Named) Names(tell func(Name)) { tell(t.Name) }

// Leads tells the name itself.
func (t Named) Leads(tell func(Name)) { tell(t.Name) }

// Bound is how many there are (Fixed), or may be at most.
type Bound struct {
	N     int64
	Fixed bool
}

// Allows tells whether there may be so many.
func (b Bound) Allows(n int) bool {
	if b.Fixed {
		return int64(n) == b.N
	}
	return 0 <= n && int64(n) <= b.N
}

// Opaque is a type of bytes.
type Opaque struct {
	alone
	Bound Bound
}

// String is a type of bytes, too; its bound is never fixed.
type String struct {
	alone
	Bound Bound
}

// Array is a type of lists.
type Array struct {
	Of    Type
	Bound Bound
}

// Names tells those in what it has.
func (t Array) Names(tell func(Name)) { t.Of.Names(tell) }

// Leads tells nothing of a list that may be empty.
func (t Array) Leads(tell func(Name)) {
	if t.Bound.Fixed {
		t.Of.Leads(tell)
	}
}

// Optional is the type of what may be missing.
type Optional struct {
	Of Type
}

// Names tells those in what it may have.
func (t Optional) Names(tell func(Name)) { t.Of.Names(tell) }

// Leads tells nothing: what may be missing ends the way.
func (t Optional) Leads(tell func(Name)) {}

// Void is the type of an arm, an argument or a result that is none.
type Void struct {
	alone
}

// Decl is a name with its type; of void the name is empty.
type Decl struct {
	Name
	Type Type
}
