package kind

import "strings"

// Write answers the one form: the variables are named in the order in which they first stand,
// and those brackets alone are there without which it would read otherwise.
func Write(t Type) string {
	w := writer{names: map[Variable]Variable{}}
	w.write(t)
	return w.out.String()
}

type writer struct {
	out   strings.Builder
	names map[Variable]Variable
}

func (w *writer) write(t Type) {
	switch x := t.(type) {
	case Whole:
		w.out.WriteByte('I')
	case Truth:
		w.out.WriteByte('B')
	case Variable:
		w.variable(w.name(x))
	case *List:
		w.out.WriteByte('[')
		w.write(x.Of)
		w.out.WriteByte(']')
	case *Pair:
		w.part(x.First, isFunction(x.First))
		w.out.WriteByte('*')
		w.part(x.Second, isFunction(x.Second) || isPair(x.Second))
	case *Function:
		w.part(x.From, isFunction(x.From))
		w.out.WriteByte('>')
		w.write(x.To)
	}
}

func (w *writer) part(t Type, closed bool) {
	if closed {
		w.out.WriteByte('(')
	}
	w.write(t)
	if closed {
		w.out.WriteByte(')')
	}
}

func (w *writer) variable(v Variable) {
	w.out.WriteByte(v.Letter)
	if v.Digit > 0 {
		w.out.WriteByte('0' + v.Digit)
	}
}

// name never runs out: there are as many names to give as variables that can be read.
func (w *writer) name(v Variable) Variable {
	name, ok := w.names[v]
	if !ok {
		next := len(w.names)
		name = Variable{Letter: 'a' + byte(next%26), Digit: byte(next / 26)}
		w.names[v] = name
	}
	return name
}

func isFunction(t Type) bool {
	_, ok := t.(*Function)
	return ok
}

func isPair(t Type) bool {
	_, ok := t.(*Pair)
	return ok
}
