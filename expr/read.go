package expr

import (
	"strings"

	"shape/scan"
)

const (
	constants = "NCPLRJEAYD"
	literals  = "0123456789TF"
)

// Read refuses a text that is no expression with a fault.Text at its place.
func Read(text string) (Expr, error) {
	r := scan.New(text)
	e, err := readExpr(r)
	if err != nil {
		return nil, err
	}
	if err := r.End(); err != nil {
		return nil, err
	}
	return e, nil
}

func readExpr(r *scan.Reader) (Expr, error) {
	switch {
	case r.Take('\\'):
		return readFunction(r)
	case r.Take('@'):
		return readLet(r)
	}
	return readCalls(r)
}

func readFunction(r *scan.Reader) (Expr, error) {
	name, err := readNameAnd(r, '.')
	if err != nil {
		return nil, err
	}
	body, err := readExpr(r)
	if err != nil {
		return nil, err
	}
	return Function{Name: name, Body: body}, nil
}

func readLet(r *scan.Reader) (Expr, error) {
	name, err := readNameAnd(r, '=')
	if err != nil {
		return nil, err
	}
	value, err := readExpr(r)
	if err != nil {
		return nil, err
	}
	if err := r.Want(';'); err != nil {
		return nil, err
	}
	rest, err := readExpr(r)
	if err != nil {
		return nil, err
	}
	return Let{Name: name, Value: value, Rest: rest}, nil
}

func readNameAnd(r *scan.Reader, mark byte) (byte, error) {
	name, err := r.Letter()
	if err != nil {
		return 0, err
	}
	return name, r.Want(mark)
}

func readCalls(r *scan.Reader) (Expr, error) {
	call, err := readAtom(r)
	if err != nil {
		return nil, err
	}
	for beginsAtom(r.Peek()) {
		second, err := readAtom(r)
		if err != nil {
			return nil, err
		}
		call = Call{First: call, Second: second}
	}
	return call, nil
}

func readAtom(r *scan.Reader) (Expr, error) {
	sign := r.Peek()
	if !beginsAtom(sign) {
		return nil, r.Wrong()
	}
	r.Skip()
	switch {
	case scan.IsLetter(sign):
		return Name{Letter: sign}, nil
	case isConstant(sign):
		return Constant{Letter: sign}, nil
	case isLiteral(sign):
		return Literal{Sign: sign}, nil
	}
	return readClosed(r)
}

func readClosed(r *scan.Reader) (Expr, error) {
	e, err := readExpr(r)
	if err != nil {
		return nil, err
	}
	if err := r.Want(')'); err != nil {
		return nil, err
	}
	return e, nil
}

func beginsAtom(b byte) bool {
	return b == '(' || scan.IsLetter(b) || isConstant(b) || isLiteral(b)
}

func isConstant(b byte) bool {
	return strings.IndexByte(constants, b) >= 0
}

func isLiteral(b byte) bool {
	return strings.IndexByte(literals, b) >= 0
}
