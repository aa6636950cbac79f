package expr

import "strings"

// Write answers the one form: with those brackets alone without which it would read otherwise.
func Write(e Expr) string {
	var out strings.Builder
	write(&out, e)
	return out.String()
}

func write(out *strings.Builder, e Expr) {
	switch x := e.(type) {
	case Name:
		out.WriteByte(x.Letter)
	case Constant:
		out.WriteByte(x.Letter)
	case Literal:
		out.WriteByte(x.Sign)
	case Function:
		out.WriteByte('\\')
		out.WriteByte(x.Name)
		out.WriteByte('.')
		write(out, x.Body)
	case Let:
		out.WriteByte('@')
		out.WriteByte(x.Name)
		out.WriteByte('=')
		write(out, x.Value)
		out.WriteByte(';')
		write(out, x.Rest)
	case Call:
		writePart(out, x.First, reachesOn(x.First))
		writePart(out, x.Second, reachesOn(x.Second) || isCall(x.Second))
	}
}

func writePart(out *strings.Builder, e Expr, closed bool) {
	if closed {
		out.WriteByte('(')
	}
	write(out, e)
	if closed {
		out.WriteByte(')')
	}
}

// reachesOn tells whether only a bracket could end it: it is no atom, and takes in all that
// stands behind it.
func reachesOn(e Expr) bool {
	switch e.(type) {
	case Function, Let:
		return true
	}
	return false
}

func isCall(e Expr) bool {
	_, ok := e.(Call)
	return ok
}
