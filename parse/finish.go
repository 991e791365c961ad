package parse

import (
	"marshal/api"
	"marshal/fault"
	"marshal/tree"
)

// lookUpTypes makes sure that every name of a type names one, ahead or behind (P6).
func (r *reader) lookUpTypes(defs []tree.Def) {
	for _, d := range defs {
		d.Names(func(n tree.Name) {
			if !isType(r.names[n.Text]) {
				panic(fault.New(api.ErrName, n.At))
			}
		})
	}
}

func isType(d tree.Def) bool {
	switch d.(type) {
	case *tree.Typedef, *tree.Enum, *tree.Struct, *tree.Union:
		return true
	}
	return false
}

// findEndless makes sure that no definition leads to itself (P6).
func (r *reader) findEndless(defs []tree.Def) {
	for _, d := range defs {
		if r.returns(d) {
			panic(fault.New(api.ErrEndless, d.Title().At))
		}
	}
}

// returns tells whether a definition leads to itself, by others or at once.
func (r *reader) returns(d tree.Def) bool {
	reached := map[string]int{}
	var follow func(n tree.Name)
	follow = func(n tree.Name) {
		if _, ok := reached[n.Text]; ok {
			return
		}
		reached[n.Text] = n.At
		r.names[n.Text].Leads(follow)
	}
	d.Leads(follow)
	_, ok := reached[d.Title().Text]
	return ok
}
