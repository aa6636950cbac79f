// Package kind: types, read from their text and held against each other.
package kind

// Type is one of the kinds below.
type Type interface {
	isType()
}

// Whole is I, the type of whole numbers.
type Whole struct{}

// Truth is B, the type of truth values.
type Truth struct{}

// Variable has the digit 0 if none stands behind its letter.
type Variable struct {
	Letter byte
	Digit  byte
}

// List is [Of].
type List struct {
	Of Type
}

// Pair is First*Second.
type Pair struct {
	First  Type
	Second Type
}

// Function is From>To.
type Function struct {
	From Type
	To   Type
}

func (Whole) isType()    {}
func (Truth) isType()    {}
func (Variable) isType() {}
func (List) isType()     {}
func (Pair) isType()     {}
func (Function) isType() {}

// Same tells whether two types differ in needless brackets at most.
func Same(one, other Type) bool {
	switch x := one.(type) {
	case Whole:
		_, ok := other.(Whole)
		return ok
	case Truth:
		_, ok := other.(Truth)
		return ok
	case Variable:
		y, ok := other.(Variable)
		return ok && x == y
	case List:
		y, ok := other.(List)
		return ok && Same(x.Of, y.Of)
	case Pair:
		y, ok := other.(Pair)
		return ok && Same(x.First, y.First) && Same(x.Second, y.Second)
	case Function:
		y, ok := other.(Function)
		return ok && Same(x.From, y.From) && Same(x.To, y.To)
	}
	return false
}
