package shape_test

import (
	"slices"
	"strings"

	"shape/shape"
)

// A secondFinder finds types in another way than the program. What an @ says is gone through
// again wherever its name is used, with what is around it there: so nothing has a scheme. And
// nothing is bound: types are cells, those that are to be the same are joined, and only at the
// end it is asked whether one stands within itself.
type secondFinder struct {
	text   string
	at     int
	around []meant
	cells  []cell
	mixed  bool
}

// A cell has the byte '?' if anything may stand there.
type cell struct {
	op            byte
	first, second int
	joined        int
	walked        bool
	within        bool
}

// A meant is what a name stands for: the cell that a \ says, or what begins at a place of the
// text, where these are around.
type meant struct {
	name   byte
	cell   int
	begin  int
	around []meant
}

func secondInfer(text string) (form string, what wrong) {
	if len(text) > 24 {
		return "", wrong{shape.ErrLong, 0}
	}
	if place, is := exprGrammar.place(text); is {
		return "", wrong{shape.ErrText, place}
	}
	return (&secondFinder{text: text}).whole()
}

// whole is stopped by a panic at a name that is free: before that, it goes on beyond all that
// is mixed.
func (s *secondFinder) whole() (form string, what wrong) {
	defer func() {
		if w, ok := recover().(wrong); ok {
			form, what = "", w
		}
	}()
	whole := s.expr()
	for c := range s.cells {
		s.mixed = s.mixed || s.isEndless(c)
	}
	if s.mixed {
		return "", wrong{shape.ErrType, 0}
	}
	return oneForm(s.plain(whole, map[int]string{})), wrong{}
}

func (s *secondFinder) peek() byte {
	if s.at == len(s.text) {
		return ' '
	}
	return s.text[s.at]
}

func (s *secondFinder) expr() int {
	begin := s.at + 3
	switch s.peek() {
	case '\\':
		name := s.text[s.at+1]
		s.at = begin
		from := s.cell('?', 0, 0)
		return s.cell('>', from, s.within(meant{name: name, cell: from}))
	case '@':
		name := s.text[s.at+1]
		s.at = begin
		s.expr()
		s.at++
		return s.within(meant{name: name, begin: begin, around: slices.Clone(s.around)})
	}
	return s.calls()
}

func (s *secondFinder) within(what meant) int {
	s.around = append(s.around, what)
	inner := s.expr()
	s.around = s.around[:len(s.around)-1]
	return inner
}

func (s *secondFinder) calls() int {
	first := s.atom()
	for strings.IndexByte(";) ", s.peek()) < 0 {
		second := s.atom()
		to := s.cell('?', 0, 0)
		s.join(first, s.cell('>', second, to))
		first = to
	}
	return first
}

func (s *secondFinder) atom() int {
	place, sign := s.at, s.peek()
	s.at++
	switch {
	case sign == '(':
		inner := s.expr()
		s.at++
		return inner
	case '0' <= sign && sign <= '9':
		return s.cell('I', 0, 0)
	case sign == 'T' || sign == 'F':
		return s.cell('B', 0, 0)
	case strings.IndexByte(letters, sign) >= 0:
		return s.name(sign, place)
	}
	return s.read(nearest(saidOfConstants, sign).of, map[string]int{})
}

func (s *secondFinder) name(name byte, place int) int {
	for i := len(s.around) - 1; i >= 0; i-- {
		what := s.around[i]
		if what.name != name {
			continue
		}
		if what.begin == 0 {
			return what.cell
		}
		at, around := s.at, s.around
		s.at, s.around = what.begin, slices.Clone(what.around)
		again := s.expr()
		s.at, s.around = at, around
		return again
	}
	panic(wrong{shape.ErrFree, place})
}

func (s *secondFinder) cell(op byte, first, second int) int {
	s.cells = append(s.cells, cell{op: op, first: first, second: second, joined: len(s.cells)})
	return len(s.cells) - 1
}

// read makes the cells of a plain type, one for each of its variables.
func (s *secondFinder) read(plain string, variables map[string]int) int {
	op, first, second := split(plain)
	switch {
	case op == '[':
		return s.cell('[', s.read(first, variables), 0)
	case op != 0:
		return s.cell(op, s.read(first, variables), s.read(second, variables))
	case plain == "I" || plain == "B":
		return s.cell(plain[0], 0, 0)
	}
	c, ok := variables[plain]
	if !ok {
		c = s.cell('?', 0, 0)
		variables[plain] = c
	}
	return c
}

// last answers the cell that stands for all that are joined with one.
func (s *secondFinder) last(c int) int {
	for s.cells[c].joined != c {
		c = s.cells[c].joined
	}
	return c
}

// join ends even if a type stands within itself: each time there are fewer that are not joined.
func (s *secondFinder) join(one, other int) {
	one, other = s.last(one), s.last(other)
	if one == other {
		return
	}
	if s.cells[one].op != '?' {
		one, other = other, one
	}
	a, b := s.cells[one], s.cells[other]
	if a.op != '?' && a.op != b.op {
		s.mixed = true
		return
	}
	s.cells[one].joined = other
	if a.op == '?' {
		return
	}
	if strings.IndexByte("[*>", a.op) >= 0 {
		s.join(a.first, b.first)
	}
	if strings.IndexByte("*>", a.op) >= 0 {
		s.join(a.second, b.second)
	}
}

func (s *secondFinder) isEndless(c int) bool {
	c = s.last(c)
	x := &s.cells[c]
	if x.walked || strings.IndexByte("[*>", x.op) < 0 {
		return false
	}
	if x.within {
		return true
	}
	x.within = true
	endless := s.isEndless(x.first) || x.op != '[' && s.isEndless(x.second)
	x.within, x.walked = false, !endless
	return endless
}

func (s *secondFinder) plain(c int, variables map[int]string) string {
	c = s.last(c)
	x := s.cells[c]
	switch x.op {
	case 'I', 'B':
		return string([]byte{x.op})
	case '[':
		return "[" + s.plain(x.first, variables) + "]"
	case '*', '>':
		return "(" + s.plain(x.first, variables) + string([]byte{x.op}) + s.plain(x.second, variables) + ")"
	}
	if variables[c] == "" {
		n := len(variables)
		variables[c] = letters[n%26:n%26+1] + string("0123456789"[n/26])
	}
	return variables[c]
}
