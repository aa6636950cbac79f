package expr

import "shape/kind"

// Write answers the one form: with those brackets alone without which it would read otherwise.
// A typed expression is written without its types.
func Write(e Expr) string {
	return kind.Text(func(w *kind.Writer) { writer{Writer: w}.expr(e) })
}

// WriteTyped answers a typed expression, with no more brackets than Write. Its variables are
// named in the order in which they first stand in it.
func WriteTyped(e Expr) string {
	return kind.Text(func(w *kind.Writer) { writer{Writer: w, typed: true}.expr(e) })
}

// A writer writes expressions, or typed ones: these have some more bytes between the same parts.
type writer struct {
	*kind.Writer
	typed bool
}

func (w writer) expr(e Expr) {
	switch x := e.(type) {
	case Name:
		w.Byte(x.Letter)
		w.given(x.Given)
	case Constant:
		w.Byte(x.Letter)
		w.given(x.Given)
	case Literal:
		w.Byte(x.Sign)
	case Function:
		w.function(x)
	case Let:
		w.let(x)
	case Call:
		w.part(x.First, reachesOn(x.First))
		w.part(x.Second, reachesOn(x.Second) || isCall(x.Second))
	}
}

func (w writer) given(all []kind.Type) {
	if !w.typed || len(all) == 0 {
		return
	}
	before := byte('{')
	for _, t := range all {
		w.Byte(before)
		w.Type(t)
		before = ','
	}
	w.Byte('}')
}

func (w writer) function(f Function) {
	w.Byte('\\')
	w.Byte(f.Name)
	if w.typed {
		w.Byte(':')
		w.Type(f.From)
	}
	w.Byte('.')
	w.expr(f.Body)
}

func (w writer) let(l Let) {
	w.Byte('@')
	w.Byte(l.Name)
	if w.typed {
		w.own(l.Own)
	}
	w.Byte('=')
	w.expr(l.Value)
	w.Byte(';')
	w.expr(l.Rest)
}

func (w writer) own(all []Own) {
	w.Byte('<')
	for _, v := range all {
		w.Variable(v.Variable)
	}
	w.Byte('>')
}

func (w writer) part(e Expr, closed bool) {
	if closed {
		w.Byte('(')
	}
	w.expr(e)
	if closed {
		w.Byte(')')
	}
}

// reachesOn tells whether only a bracket could end it: it is no atom, and takes in all that
// stands behind it.
func reachesOn(e Expr) bool {
	switch e.(type) {
	case Function, Let:
		return true
	}
	return false
}

func isCall(e Expr) bool {
	_, ok := e.(Call)
	return ok
}
