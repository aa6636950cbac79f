package infer

import (
	"shape/expr"
	"shape/kind"
)

// outermost is below every level: no unknown is left.
const outermost = -1

func (f *finder) settledType(t kind.Type) kind.Type {
	return kind.Settle(t, outermost, f.variable)
}

// settled answers a typed expression in which nothing is unknown. What was never found may be
// anything, so it is a variable of its own.
func (f *finder) settled(e expr.Expr) expr.Expr {
	switch x := e.(type) {
	case expr.Name:
		x.Given = f.settledTypes(x.Given)
		return x
	case expr.Constant:
		x.Given = f.settledTypes(x.Given)
		return x
	case expr.Function:
		x.From = f.settledType(x.From)
		x.Body = f.settled(x.Body)
		return x
	case expr.Let:
		x.Value = f.settled(x.Value)
		x.Rest = f.settled(x.Rest)
		return x
	case expr.Call:
		x.First = f.settled(x.First)
		x.Second = f.settled(x.Second)
		return x
	}
	return e
}

func (f *finder) settledTypes(all []kind.Type) []kind.Type {
	var out []kind.Type
	for _, t := range all {
		out = append(out, f.settledType(t))
	}
	return out
}
