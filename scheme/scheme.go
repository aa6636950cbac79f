// Package scheme: types of which some variables may be taken for anything.
package scheme

import (
	"slices"

	"shape/kind"
)

// Scheme is a type and its own variables: those that may be taken for anything.
type Scheme struct {
	of    kind.Type
	own   []kind.Variable
	fixed *kind.Variables
	given []kind.Type
	taken kind.Type
}

// New makes the scheme of a type and some variables, of which none is there twice. They
// need not stand in the type.
func New(of kind.Type, own ...kind.Variable) *Scheme {
	return &Scheme{of: of, own: own}
}

// Count tells how many variables may be taken for anything.
func (s *Scheme) Count() int {
	return len(s.own)
}

// At answers the type with the given ones, one for each variable, in the variables' order.
// A type that was made last is not made again: big ones would fill the memory.
func (s *Scheme) At(given []kind.Type) kind.Type {
	if s.taken == nil || !slices.EqualFunc(s.given, given, kind.Same) {
		s.given, s.taken = given, kind.Put(s.of, s.own, given)
	}
	return s.taken
}

// Fixes tells whether the variable stands in the type, but not as one of the scheme's own.
// The type is gone through when this is first asked: of most schemes it never is.
func (s *Scheme) Fixes(v kind.Variable) bool {
	if s.fixed == nil {
		s.fixed = s.findFixed()
	}
	return s.fixed.Has(v)
}

func (s *Scheme) findFixed() *kind.Variables {
	all := kind.VariablesOf(s.of)
	for _, v := range s.own {
		all.Remove(v)
	}
	return &all
}
