package tree

// Def is a definition: a pointer to one of the kinds below.
type Def interface {
	// Title gives its name.
	Title() Name
	// Names tells the names of types that stand in it, in their order.
	Names(tell func(Name))
	// Leads tells the names to which it leads (P6).
	Leads(tell func(Name))
	// words puts the words with which it is written (P7).
	words(put putter)
}

// Const is a constant: one of its own, or a member of an enumeration.
type Const struct {
	Name
	alone
	Value int64
}

// Typedef gives a type a name.
type Typedef struct {
	Decl
}

// Names tells those of its type.
func (d *Typedef) Names(tell func(Name)) { d.Type.Names(tell) }

// Leads tells those of its type.
func (d *Typedef) Leads(tell func(Name)) { d.Type.Leads(tell) }

// Enum is an enumeration.
type Enum struct {
	Name
	alone
	Members []*Const
}

// Has tells whether a number is a member's.
func (d *Enum) Has(n int64) bool {
	for _, m := range d.Members {
		if m.Value == n {
			return true
		}
	}
	return false
}

// Struct is a structure.
type Struct struct {
	Name
	Members []Decl
}

// Names tells those of its members.
func (d *Struct) Names(tell func(Name)) {
	for _, m := range d.Members {
		m.Type.Names(tell)
	}
}

// Leads tells those of all its members.
func (d *Struct) Leads(tell func(Name)) {
	for _, m := range d.Members {
		m.Type.Leads(tell)
	}
}

// Union is a union: By is its number, and Arms what it can be then.
type Union struct {
	Name
	By   Decl
	Arms []Arm
}

// Arm is an arm of a union: of its cases' numbers or, if there are none, of all others.
type Arm struct {
	Cases []int64
	Body  Decl
}

// Names tells those of its arms; its number has been looked up already.
func (d *Union) Names(tell func(Name)) {
	for _, a := range d.Arms {
		a.Body.Type.Names(tell)
	}
}

// Leads tells those of all its arms.
func (d *Union) Leads(tell func(Name)) {
	for _, a := range d.Arms {
		a.Body.Type.Leads(tell)
	}
}

// Program is a program of remote procedures.
type Program struct {
	Name
	Versions []Version
	Number   int64
}

// Version is a version of a program.
type Version struct {
	Name
	Procs  []Proc
	Number int64
}

// Proc is a procedure of a version.
type Proc struct {
	Name
	Result, Arg Type
	Number      int64
}

// Names tells those of its procedures: a result stands ahead of its argument.
func (d *Program) Names(tell func(Name)) {
	for _, v := range d.Versions {
		for _, p := range v.Procs {
			p.Result.Names(tell)
			p.Arg.Names(tell)
		}
	}
}

// Leads tells nothing: a program is no type.
func (d *Program) Leads(tell func(Name)) {}
