package expr

import (
	"strings"

	"shape/kind"
	"shape/scan"
)

const (
	constants = "NCPLRJEAYD"
	literals  = "0123456789TF"
)

// Read refuses a text that is no expression with a fault.Text at its place.
func Read(text string) (Expr, error) {
	return readWhole(reader{Reader: scan.New(text)})
}

// ReadTyped refuses a text that is no typed expression with a fault.Text at its place.
func ReadTyped(text string) (Expr, error) {
	return readWhole(reader{Reader: scan.New(text), typed: true})
}

// A reader reads expressions, or typed ones: these have some more bytes between the same parts.
type reader struct {
	*scan.Reader
	typed bool
}

func readWhole(r reader) (Expr, error) {
	e, err := r.expr()
	if err != nil {
		return nil, err
	}
	if err := r.End(); err != nil {
		return nil, err
	}
	return e, nil
}

func (r reader) expr() (Expr, error) {
	place := r.Place()
	switch {
	case r.Take('\\'):
		return r.function(place)
	case r.Take('@'):
		return r.let()
	}
	return r.calls()
}

func (r reader) function(place int) (Expr, error) {
	name, err := r.Letter()
	if err != nil {
		return nil, err
	}
	from, err := r.from()
	if err != nil {
		return nil, err
	}
	if err := r.Want('.'); err != nil {
		return nil, err
	}
	body, err := r.expr()
	if err != nil {
		return nil, err
	}
	return Function{Name: name, From: from, Body: body, Place: place}, nil
}

func (r reader) from() (kind.Type, error) {
	if !r.typed {
		return nil, nil
	}
	if err := r.Want(':'); err != nil {
		return nil, err
	}
	return kind.ReadFrom(r.Reader)
}

func (r reader) let() (Expr, error) {
	name, err := r.Letter()
	if err != nil {
		return nil, err
	}
	own, err := r.own()
	if err != nil {
		return nil, err
	}
	if err := r.Want('='); err != nil {
		return nil, err
	}
	value, err := r.expr()
	if err != nil {
		return nil, err
	}
	if err := r.Want(';'); err != nil {
		return nil, err
	}
	rest, err := r.expr()
	if err != nil {
		return nil, err
	}
	return Let{Name: name, Own: own, Value: value, Rest: rest}, nil
}

func (r reader) own() ([]Own, error) {
	if !r.typed {
		return nil, nil
	}
	if err := r.Want('<'); err != nil {
		return nil, err
	}
	var all []Own
	for !r.Take('>') {
		place := r.Place()
		v, err := kind.ReadVariable(r.Reader)
		if err != nil {
			return nil, err
		}
		all = append(all, Own{Variable: v, Place: place})
	}
	return all, nil
}

func (r reader) calls() (Expr, error) {
	call, err := r.atom()
	if err != nil {
		return nil, err
	}
	for beginsAtom(r.Peek()) {
		place := r.Place()
		second, err := r.atom()
		if err != nil {
			return nil, err
		}
		call = Call{First: call, Second: second, Place: place}
	}
	return call, nil
}

func (r reader) atom() (Expr, error) {
	sign, place := r.Peek(), r.Place()
	if !beginsAtom(sign) {
		return nil, r.Wrong()
	}
	r.Skip()
	switch {
	case isLiteral(sign):
		return Literal{Sign: sign}, nil
	case sign == '(':
		return r.closed()
	}
	given, err := r.given()
	if err != nil {
		return nil, err
	}
	if isConstant(sign) {
		return Constant{Letter: sign, Given: given, Place: place}, nil
	}
	return Name{Letter: sign, Given: given, Place: place}, nil
}

func (r reader) closed() (Expr, error) {
	e, err := r.expr()
	if err != nil {
		return nil, err
	}
	if err := r.Want(')'); err != nil {
		return nil, err
	}
	return e, nil
}

func (r reader) given() ([]kind.Type, error) {
	if !r.typed || !r.Take('{') {
		return nil, nil
	}
	var all []kind.Type
	for {
		t, err := kind.ReadFrom(r.Reader)
		if err != nil {
			return nil, err
		}
		all = append(all, t)
		if !r.Take(',') {
			return all, r.Want('}')
		}
	}
}

func beginsAtom(b byte) bool {
	return b == '(' || scan.IsLetter(b) || isConstant(b) || isLiteral(b)
}

func isConstant(b byte) bool {
	return strings.IndexByte(constants, b) >= 0
}

func isLiteral(b byte) bool {
	return strings.IndexByte(literals, b) >= 0
}
