// Package shape: what kind of thing an expression is, found out, and shown: see DOC.md.
package shape

import (
	"errors"

	"shape/check"
	"shape/expr"
	"shape/fault"
	"shape/infer"
	"shape/kind"
)

// Errno is what a call answers: OK or the reason for a refusal.
type Errno int

const (
	OK       Errno = 0
	ErrLong  Errno = 1 // a text above its bound
	ErrText  Errno = 2 // no such text
	ErrFree  Errno = 3 // a name that nothing says
	ErrCount Errno = 4 // too many types behind a name, or too few
	ErrMixed Errno = 5 // a call that may not be
	ErrFixed Errno = 6 // a variable that may not be taken for anything
	ErrType  Errno = 7 // there is no type
	ErrBig   Errno = 8 // a type that is too big
)

// The most bytes of an expression, of a typed one, and of a type.
const (
	maxText  = 24
	maxTyped = 60000
	maxType  = 4000
)

// Print writes an expression in its one form (P3).
func Print(text string) (string, Errno, int) {
	form, err := printed(text)
	return form, number(err), place(err)
}

// Infer finds the most general type (P5).
func Infer(text string) (string, Errno, int) {
	form, err := inferred(text)
	return form, number(err), place(err)
}

// Show writes an expression with its types (P6).
func Show(text string) (string, Errno, int) {
	typed, err := shown(text)
	return typed, number(err), place(err)
}

// Check checks a typed expression (P4).
func Check(typed string) (string, Errno, int) {
	form, err := checked(typed)
	return form, number(err), place(err)
}

// Instance tells whether a type is an instance of another one (P7).
func Instance(general string, special string) (bool, Errno, int) {
	is, err := isInstance(general, special)
	return is, number(err), place(err)
}

func printed(text string) (string, error) {
	e, err := read(text)
	if err != nil {
		return "", err
	}
	return expr.Write(e), nil
}

func inferred(text string) (string, error) {
	_, t, err := found(text)
	if err != nil {
		return "", err
	}
	return kind.Write(t), nil
}

func shown(text string) (string, error) {
	typed, _, err := found(text)
	if err != nil {
		return "", err
	}
	return expr.WriteTyped(typed), nil
}

func read(text string) (expr.Expr, error) {
	if len(text) > maxText {
		return nil, fault.Long
	}
	return expr.Read(text)
}

func found(text string) (expr.Expr, kind.Type, error) {
	e, err := read(text)
	if err != nil {
		return nil, nil, err
	}
	return infer.Typed(e)
}

func checked(typed string) (string, error) {
	if len(typed) > maxTyped {
		return "", fault.Long
	}
	e, err := expr.ReadTyped(typed)
	if err != nil {
		return "", err
	}
	t, err := check.Type(e)
	if err != nil {
		return "", err
	}
	return kind.Write(t), nil
}

func isInstance(general, special string) (bool, error) {
	if len(general) > maxType || len(special) > maxType {
		return false, fault.Long
	}
	g, err := kind.Read(general)
	if err != nil {
		return false, err
	}
	s, err := kind.Read(special)
	if err != nil {
		return false, err
	}
	return kind.Instance(g, s), nil
}

func number(err error) Errno {
	switch {
	case errors.Is(err, fault.Long):
		return ErrLong
	case errors.Is(err, fault.Text):
		return ErrText
	case errors.Is(err, fault.Free):
		return ErrFree
	case errors.Is(err, fault.Count):
		return ErrCount
	case errors.Is(err, fault.Mixed):
		return ErrMixed
	case errors.Is(err, fault.Fixed):
		return ErrFixed
	case errors.Is(err, fault.Type):
		return ErrType
	case errors.Is(err, fault.Big):
		return ErrBig
	}
	return OK
}

// place is 0 where what is wrong has no place, and where nothing is wrong.
func place(err error) int {
	var at *fault.At
	if errors.As(err, &at) {
		return at.Place
	}
	return 0
}
