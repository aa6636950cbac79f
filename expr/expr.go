// Package expr: expressions, read from their text and written in their one form.
package expr

// Expr is one of the kinds below. Brackets are no kind: they only say what belongs together.
type Expr interface {
	isExpr()
}

// Name is a name where it is used.
type Name struct {
	Letter byte
}

// Constant is one of the letters that have a scheme of their own.
type Constant struct {
	Letter byte
}

// Literal is a digit or a truth value.
type Literal struct {
	Sign byte
}

// Function is \Name.Body.
type Function struct {
	Name byte
	Body Expr
}

// Let is @Name=Value;Rest.
type Let struct {
	Name  byte
	Value Expr
	Rest  Expr
}

// Call is two parts behind one another.
type Call struct {
	First  Expr
	Second Expr
}

func (Name) isExpr()     {}
func (Constant) isExpr() {}
func (Literal) isExpr()  {}
func (Function) isExpr() {}
func (Let) isExpr()      {}
func (Call) isExpr()     {}
