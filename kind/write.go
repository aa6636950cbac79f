package kind

import "strings"

// Write answers the one form of a type.
func Write(t Type) string {
	return Text(func(w *Writer) { w.Type(t) })
}

// Text answers what write writes. It is asked twice, at first to learn how long the text is:
// one of gigabytes must not be moved again and again to where there is more room.
func Text(write func(w *Writer)) string {
	learn := newWriter(nil)
	write(learn)
	var text strings.Builder
	text.Grow(learn.length)
	write(newWriter(&text))
	return text.String()
}

// A Writer writes types, and what stands between them, into one text. Variables are named in
// the order in which they first stand there, and those brackets alone are written without which
// a type would read otherwise.
type Writer struct {
	text   *strings.Builder // nil if the length alone is to be learned
	length int
	names  map[Variable]Variable
	spans  map[Type]span
}

// A span is where a type with parts stands in the text. Whenever the same one is to be written
// again, it is copied from there: it may have far more nodes than parts were made.
type span struct {
	begin int
	end   int
}

func newWriter(text *strings.Builder) *Writer {
	return &Writer{text: text, names: map[Variable]Variable{}, spans: map[Type]span{}}
}

// Byte writes one byte.
func (w *Writer) Byte(b byte) {
	w.length++
	if w.text != nil {
		w.text.WriteByte(b)
	}
}

// Type writes a type.
func (w *Writer) Type(t Type) {
	if nodeOf(t) == nil {
		w.leaf(t)
		return
	}
	if s, ok := w.spans[t]; ok {
		w.again(s)
		return
	}
	begin := w.length
	w.parts(t)
	w.spans[t] = span{begin, w.length}
}

func (w *Writer) again(s span) {
	w.length += s.end - s.begin
	if w.text != nil {
		w.text.WriteString(w.text.String()[s.begin:s.end])
	}
}

func (w *Writer) leaf(t Type) {
	switch x := t.(type) {
	case Whole:
		w.Byte('I')
	case Truth:
		w.Byte('B')
	case Variable:
		w.Variable(x)
	}
}

// Variable writes the name of a variable.
func (w *Writer) Variable(v Variable) {
	name, ok := w.names[v]
	if !ok {
		name = NumberedVariable(len(w.names))
		w.names[v] = name
	}
	w.Byte(name.Letter)
	if name.Digit > 0 {
		w.Byte('0' + name.Digit)
	}
}

func (w *Writer) parts(t Type) {
	switch x := t.(type) {
	case *List:
		w.Byte('[')
		w.Type(x.Of)
		w.Byte(']')
	case *Pair:
		w.part(x.First, isFunction(x.First))
		w.Byte('*')
		w.part(x.Second, isFunction(x.Second) || isPair(x.Second))
	case *Function:
		w.part(x.From, isFunction(x.From))
		w.Byte('>')
		w.Type(x.To)
	}
}

func (w *Writer) part(t Type, closed bool) {
	if closed {
		w.Byte('(')
	}
	w.Type(t)
	if closed {
		w.Byte(')')
	}
}

func isFunction(t Type) bool {
	_, ok := t.(*Function)
	return ok
}

func isPair(t Type) bool {
	_, ok := t.(*Pair)
	return ok
}
