// Package check: whether a typed expression is right. Nothing is found out here: all types
// stand in the expression, and are held against each other.
package check

import (
	"shape/expr"
	"shape/fault"
	"shape/kind"
	"shape/scheme"
)

// maxNodes: a type with more of them is refused wherever it is met, even if the whole has
// a smaller one.
const maxNodes = 50000

// Type answers the type of a typed expression, or what is first met that is wrong in it.
func Type(e expr.Expr) (kind.Type, error) {
	return typeOf(e, &scheme.Around{})
}

// typeOf asks only where a type is made whether it is too big: that of a call and that of
// an @ are parts of types that have been met.
func typeOf(e expr.Expr, names *scheme.Around) (kind.Type, error) {
	switch x := e.(type) {
	case expr.Name:
		return typeOfName(x, names)
	case expr.Constant:
		return typeOfConstant(x)
	case expr.Function:
		return typeOfFunction(x, names)
	case expr.Let:
		return typeOfLet(x, names)
	case expr.Call:
		return typeOfCall(x, names)
	case expr.Literal:
		return scheme.Literal(x.Sign), nil
	}
	return nil, fault.Text
}

func typeOfName(n expr.Name, names *scheme.Around) (kind.Type, error) {
	s := names.Of(n.Letter)
	if s == nil {
		return nil, &fault.At{Place: n.Place, Err: fault.Free}
	}
	return taken(s, n.Given, n.Place)
}

func typeOfConstant(c expr.Constant) (kind.Type, error) {
	s, err := scheme.Constant(c.Letter)
	if err != nil {
		return nil, &fault.At{Place: c.Place, Err: err}
	}
	return taken(s, c.Given, c.Place)
}

func taken(s *scheme.Scheme, given []kind.Type, place int) (kind.Type, error) {
	if len(given) != s.Count() {
		return nil, &fault.At{Place: place, Err: fault.Count}
	}
	return notTooBig(s.At(given), place)
}

func typeOfFunction(f expr.Function, names *scheme.Around) (kind.Type, error) {
	to, err := typeOf(f.Body, names.With(f.Name, scheme.New(f.From)))
	if err != nil {
		return nil, err
	}
	return notTooBig(kind.NewFunction(f.From, to), f.Place)
}

func notTooBig(t kind.Type, place int) (kind.Type, error) {
	if kind.Nodes(t) > maxNodes {
		return nil, &fault.At{Place: place, Err: fault.Big}
	}
	return t, nil
}

func typeOfLet(l expr.Let, names *scheme.Around) (kind.Type, error) {
	own, err := ownVariables(l.Own, names)
	if err != nil {
		return nil, err
	}
	value, err := typeOf(l.Value, names)
	if err != nil {
		return nil, err
	}
	return typeOf(l.Rest, names.With(l.Name, scheme.New(value, own...)))
}

func ownVariables(all []expr.Own, names *scheme.Around) ([]kind.Variable, error) {
	var own []kind.Variable
	var ahead kind.Variables
	for _, v := range all {
		if ahead.Has(v.Variable) || names.Fixes(v.Variable) {
			return nil, &fault.At{Place: v.Place, Err: fault.Fixed}
		}
		ahead.Add(v.Variable)
		own = append(own, v.Variable)
	}
	return own, nil
}

func typeOfCall(c expr.Call, names *scheme.Around) (kind.Type, error) {
	first, err := typeOf(c.First, names)
	if err != nil {
		return nil, err
	}
	second, err := typeOf(c.Second, names)
	if err != nil {
		return nil, err
	}
	f, ok := first.(*kind.Function)
	if !ok || !kind.Same(f.From, second) {
		return nil, &fault.At{Place: c.Place, Err: fault.Mixed}
	}
	return f.To, nil
}
