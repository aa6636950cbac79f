// Package kind: types, read from their text, written, held against each other, and found.
package kind

// Type is one of the kinds below, or an Unknown where it is still to be found. Those with parts
// are pointers: one part may stand in a type many times, so that the type has far more nodes
// than parts were made.
type Type interface {
	isType()
}

// Whole is I, the type of whole numbers.
type Whole struct{}

// Truth is B, the type of truth values.
type Truth struct{}

// Variable has the digit 0 if none stands behind its letter.
type Variable struct {
	Letter byte
	Digit  byte
}

// List is [Of].
type List struct {
	Of Type
	node
}

// Pair is First*Second.
type Pair struct {
	First  Type
	Second Type
	node
}

// Function is From>To.
type Function struct {
	From Type
	To   Type
	node
}

func (Whole) isType()     {}
func (Truth) isType()     {}
func (Variable) isType()  {}
func (*List) isType()     {}
func (*Pair) isType()     {}
func (*Function) isType() {}

// NewList makes [of].
func NewList(of Type) *List {
	return &List{Of: of, node: above(of)}
}

// NewPair makes first*second.
func NewPair(first, second Type) *Pair {
	return &Pair{First: first, Second: second, node: above(first, second)}
}

// NewFunction makes from>to.
func NewFunction(from, to Type) *Function {
	return &Function{From: from, To: to, node: above(from, to)}
}
