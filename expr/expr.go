// Package expr: expressions and typed expressions, read from their text, and written in their
// one form.
package expr

import "shape/kind"

// Expr is one of the kinds below. Brackets are no kind: they only say what belongs together.
//
// A typed expression is made of the same kinds: what it alone has is empty in an expression.
type Expr interface {
	isExpr()
}

// Name is a name where it is used, with the types behind it.
type Name struct {
	Letter byte
	Given  []kind.Type
	Place  int
}

// Constant is one of the letters that have a scheme of their own, with the types behind it.
type Constant struct {
	Letter byte
	Given  []kind.Type
	Place  int
}

// Literal is a digit or a truth value.
type Literal struct {
	Sign byte
}

// Function is \Name.Body, or \Name:From.Body.
type Function struct {
	Name  byte
	From  kind.Type
	Body  Expr
	Place int
}

// Let is @Name=Value;Rest, or @Name<Own>=Value;Rest.
type Let struct {
	Name  byte
	Own   []Own
	Value Expr
	Rest  Expr
}

// Own is a variable of types where an @ names it as its own.
type Own struct {
	Variable kind.Variable
	Place    int
}

// Call is two parts behind one another. Its place is that of the second one, with the
// bracket ahead of it.
type Call struct {
	First  Expr
	Second Expr
	Place  int
}

func (Name) isExpr()     {}
func (Constant) isExpr() {}
func (Literal) isExpr()  {}
func (Function) isExpr() {}
func (Let) isExpr()      {}
func (Call) isExpr()     {}
