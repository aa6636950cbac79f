package shape_test

import (
	"slices"
	"strings"

	"shape/shape"
)

// In a plain type every pair and every function has brackets, and every variable a digit, if
// need be 0: so two of them are the same if they are so to the letter, none begins with another
// one, and types are put in the place of variables as texts are.

func nodesOf(plain string) int {
	count := 0
	for i := range len(plain) {
		if strings.IndexByte("IB[*>"+letters, plain[i]) >= 0 {
			count++
		}
	}
	return count
}

// split answers 0 for a plain type without parts, and one part for a list.
func split(plain string) (op byte, first, second string) {
	switch plain[0] {
	case '[':
		return '[', plain[1 : len(plain)-1], ""
	case '(':
		i := 1 + plainLength(plain[1:])
		return plain[i], plain[1:i], plain[i+1 : len(plain)-1]
	}
	return 0, "", ""
}

// plainLength answers the length of the plain type with which the text begins.
func plainLength(text string) int {
	depth := 0
	for i := range len(text) {
		switch text[i] {
		case '(', '[':
			depth++
		case ')', ']':
			depth--
		}
		if depth > 0 {
			continue
		}
		if strings.IndexByte(letters, text[i]) >= 0 {
			return i + 2
		}
		return i + 1
	}
	return len(text)
}

// asText writes a plain type with the brackets it needs, and with those that more asks for.
func asText(plain string, more func() bool) string {
	op, first, second := split(plain)
	closed := func(part string, ops string) string {
		text := asText(part, more)
		if in, _, _ := split(part); in != 0 && strings.IndexByte(ops, in) >= 0 || more() {
			return "(" + text + ")"
		}
		return text
	}
	switch op {
	case '[':
		return "[" + closed(first, "") + "]"
	case '*':
		return closed(first, ">") + "*" + closed(second, "*>")
	case '>':
		return closed(first, ">") + ">" + closed(second, "")
	}
	return strings.TrimSuffix(plain, "0")
}

func never() bool { return false }

func oneForm(plain string) string {
	var met, pairs []string
	for i := range len(plain) {
		if strings.IndexByte(letters, plain[i]) < 0 {
			continue
		}
		if v := plain[i : i+2]; !slices.Contains(met, v) {
			n := len(met)
			met = append(met, v)
			pairs = append(pairs, v, letters[n%26:n%26+1]+string("0123456789"[n/26]))
		}
	}
	return asText(strings.NewReplacer(pairs...).Replace(plain), never)
}

// A said is what a \ or an @ says of a name: its plain type, and the variables that may be
// taken for anything.
type said struct {
	name byte
	of   string
	own  []string
}

var saidOfConstants = []said{
	{'N', "[a0]", []string{"a0"}},
	{'C', "(a0>([a0]>[a0]))", []string{"a0"}},
	{'P', "(a0>(b0>(a0*b0)))", []string{"a0", "b0"}},
	{'L', "((a0*b0)>a0)", []string{"a0", "b0"}},
	{'R', "((a0*b0)>b0)", []string{"a0", "b0"}},
	{'J', "(B>(a0>(a0>a0)))", []string{"a0"}},
	{'E', "(I>(I>B))", nil},
	{'A', "(I>(I>I))", nil},
	{'Y', "((a0>a0)>a0)", []string{"a0"}},
	{'D', "((a0>(b0>b0))>(b0>([a0]>b0)))", []string{"a0", "b0"}},
}

// nearest answers what is said of a name last, or nil.
func nearest(around []said, name byte) *said {
	for i := len(around) - 1; i >= 0; i-- {
		if around[i].name == name {
			return &around[i]
		}
	}
	return nil
}

func isFixed(around []said, v string) bool {
	for i, s := range around {
		if nearest(around[i+1:], s.name) == nil && strings.Contains(s.of, v) && !slices.Contains(s.own, v) {
			return true
		}
	}
	return false
}

// A second checks a typed expression in another way than the program: it goes through the
// text once and makes nothing but plain types. It stops at what is wrong by a panic. To an
// endless one no type is too big.
type second struct {
	text    string
	at      int
	around  []said
	endless bool
}

type wrong struct {
	errno shape.Errno
	place int
}

func secondCheck(text string) (plain string, what wrong) {
	if len(text) > 60000 {
		return "", wrong{shape.ErrLong, 0}
	}
	if place, is := typedGrammar.place(text); is {
		return "", wrong{shape.ErrText, place}
	}
	return (&second{text: text}).whole()
}

func (s *second) whole() (plain string, what wrong) {
	defer func() {
		if w, ok := recover().(wrong); ok {
			plain, what = "", w
		}
	}()
	return s.typed(), wrong{}
}

func (s *second) peek() byte {
	if s.at == len(s.text) {
		return ' '
	}
	return s.text[s.at]
}

func (s *second) typed() string {
	place := s.at
	switch s.peek() {
	case '\\':
		name := s.text[s.at+1]
		s.at += 3
		from := s.plain()
		s.at++
		return s.small("("+from+">"+s.within(said{name, from, nil})+")", place)
	case '@':
		name := s.text[s.at+1]
		s.at += 3
		own := s.own()
		s.at += 2
		value := s.typed()
		s.at++
		return s.within(said{name, value, own})
	}
	return s.calls()
}

func (s *second) within(what said) string {
	s.around = append(s.around, what)
	inner := s.typed()
	s.around = s.around[:len(s.around)-1]
	return inner
}

func (s *second) small(plain string, place int) string {
	if !s.endless && nodesOf(plain) > 50000 {
		panic(wrong{shape.ErrBig, place})
	}
	return plain
}

func (s *second) own() []string {
	var all []string
	for s.peek() != '>' {
		place := s.at
		v := s.variable()
		if slices.Contains(all, v) || isFixed(s.around, v) {
			panic(wrong{shape.ErrFixed, place})
		}
		all = append(all, v)
	}
	return all
}

func (s *second) calls() string {
	first := s.atom()
	for strings.IndexByte(":.<>=;)} ", s.peek()) < 0 {
		place := s.at
		from := "(" + s.atom() + ">"
		if !strings.HasPrefix(first, from) {
			panic(wrong{shape.ErrMixed, place})
		}
		first = first[len(from) : len(first)-1]
	}
	return first
}

func (s *second) atom() string {
	place, sign := s.at, s.peek()
	s.at++
	switch {
	case sign == '(':
		inner := s.typed()
		s.at++
		return inner
	case '0' <= sign && sign <= '9':
		return "I"
	case sign == 'T' || sign == 'F':
		return "B"
	}
	var given []string
	if s.peek() == '{' {
		for s.peek() != '}' {
			s.at++
			given = append(given, s.plain())
		}
		s.at++
	}
	what := nearest(append(slices.Clip(saidOfConstants), s.around...), sign)
	if what == nil {
		panic(wrong{shape.ErrFree, place})
	}
	if len(given) != len(what.own) {
		panic(wrong{shape.ErrCount, place})
	}
	return s.small(taken(*what, given), place)
}

func taken(what said, given []string) string {
	var pairs []string
	for i, v := range what.own {
		pairs = append(pairs, v, given[i])
	}
	return strings.NewReplacer(pairs...).Replace(what.of)
}

func (s *second) plain() string {
	from := s.unit()
	for s.peek() == '*' {
		s.at++
		from = "(" + from + "*" + s.unit() + ")"
	}
	if s.peek() == '>' {
		s.at++
		return "(" + from + ">" + s.plain() + ")"
	}
	return from
}

func (s *second) unit() string {
	switch s.peek() {
	case 'I', 'B':
		s.at++
		return s.text[s.at-1 : s.at]
	case '[', '(':
		open := s.peek()
		s.at++
		inner := s.plain()
		s.at++
		if open == '[' {
			return "[" + inner + "]"
		}
		return inner
	}
	return s.variable()
}

func (s *second) variable() string {
	letter := s.text[s.at : s.at+1]
	s.at++
	if digit := s.peek(); '1' <= digit && digit <= '9' {
		s.at++
		return letter + s.text[s.at-1:s.at]
	}
	return letter + "0"
}
