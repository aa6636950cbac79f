// Package infer: the most general type of an expression, found out, and a typed expression
// that shows it.
package infer

import (
	"shape/expr"
	"shape/fault"
	"shape/kind"
	"shape/scheme"
)

// Typed answers a right typed expression, which without its types is the given one, and its
// type: the most general one.
func Typed(e expr.Expr) (expr.Expr, kind.Type, error) {
	if err := expr.NoneFree(e); err != nil {
		return nil, nil, err
	}
	var f finder
	typed, t, err := f.find(e, &scheme.Around{})
	if err != nil {
		return nil, nil, err
	}
	return f.settled(typed), f.settledType(t), nil
}

// A finder is within the first parts of as many @ as its level says. It takes no variable
// twice: so those of two @ never meet.
type finder struct {
	level int
	taken int
}

func (f *finder) unknown() kind.Type {
	return kind.NewUnknown(f.level)
}

// variable doesn't run out: 24 bytes need far fewer than the 260 that there are.
func (f *finder) variable() kind.Variable {
	v := kind.NumberedVariable(f.taken)
	f.taken++
	return v
}

// find answers the expression with types, in which some are still unknown, and its type.
func (f *finder) find(e expr.Expr, names *scheme.Around) (expr.Expr, kind.Type, error) {
	switch x := e.(type) {
	case expr.Name:
		return f.findName(x, names)
	case expr.Constant:
		return f.findConstant(x)
	case expr.Function:
		return f.findFunction(x, names)
	case expr.Let:
		return f.findLet(x, names)
	case expr.Call:
		return f.findCall(x, names)
	case expr.Literal:
		return x, scheme.Literal(x.Sign), nil
	}
	return nil, nil, fault.Text
}

func (f *finder) findName(n expr.Name, names *scheme.Around) (expr.Expr, kind.Type, error) {
	s := names.Of(n.Letter)
	if s == nil {
		return nil, nil, &fault.At{Place: n.Place, Err: fault.Free}
	}
	n.Given = f.anything(s.Count())
	return n, s.At(n.Given), nil
}

func (f *finder) findConstant(c expr.Constant) (expr.Expr, kind.Type, error) {
	s, err := scheme.Constant(c.Letter)
	if err != nil {
		return nil, nil, &fault.At{Place: c.Place, Err: err}
	}
	c.Given = f.anything(s.Count())
	return c, s.At(c.Given), nil
}

func (f *finder) anything(count int) []kind.Type {
	all := make([]kind.Type, count)
	for i := range all {
		all[i] = f.unknown()
	}
	return all
}

func (f *finder) findFunction(x expr.Function, names *scheme.Around) (expr.Expr, kind.Type, error) {
	x.From = f.unknown()
	body, to, err := f.find(x.Body, names.With(x.Name, scheme.New(x.From)))
	if err != nil {
		return nil, nil, err
	}
	x.Body = body
	return x, kind.NewFunction(x.From, to), nil
}

func (f *finder) findLet(l expr.Let, names *scheme.Around) (expr.Expr, kind.Type, error) {
	f.level++
	value, of, err := f.find(l.Value, names)
	f.level--
	if err != nil {
		return nil, nil, err
	}
	s, own := f.general(of)
	rest, t, err := f.find(l.Rest, names.With(l.Name, s))
	if err != nil {
		return nil, nil, err
	}
	l.Own, l.Value, l.Rest = own, value, rest
	return l, t, nil
}

// general takes for anything what was made within the first part of an @ alone: what is in
// the type of a name around it has come down to the level there.
func (f *finder) general(of kind.Type) (*scheme.Scheme, []expr.Own) {
	var variables []kind.Variable
	var own []expr.Own
	of = kind.Settle(of, f.level, func() kind.Variable {
		v := f.variable()
		variables = append(variables, v)
		own = append(own, expr.Own{Variable: v})
		return v
	})
	return scheme.New(of, variables...), own
}

func (f *finder) findCall(c expr.Call, names *scheme.Around) (expr.Expr, kind.Type, error) {
	first, of, err := f.find(c.First, names)
	if err != nil {
		return nil, nil, err
	}
	second, from, err := f.find(c.Second, names)
	if err != nil {
		return nil, nil, err
	}
	to := f.unknown()
	if !kind.Unify(of, kind.NewFunction(from, to)) {
		return nil, nil, fault.Type
	}
	c.First, c.Second = first, second
	return c, to, nil
}
