package shape_test

import (
	"strings"
	"testing"

	"shape/shape"
)

// A maker makes typed expressions that are right, always the same ones. One that is careless
// takes variables for an @ that may not stand there.
type maker struct {
	seed     uint32
	careless bool
	around   []said
}

func (m *maker) below(n int) int {
	m.seed = m.seed*1664525 + 1013904223
	return int(m.seed>>8) % n
}

func (m *maker) oneOf(texts ...string) string {
	return texts[m.below(len(texts))]
}

func (m *maker) plain(depth int) string {
	choice := m.below(8)
	if depth == 0 {
		choice = m.below(4)
	}
	switch choice {
	case 0:
		return "I"
	case 1:
		return "B"
	case 2, 3:
		return m.oneOf("a0", "b0", "a1", "z9")
	case 4:
		return "[" + m.plain(depth-1) + "]"
	case 5:
		return "(" + m.plain(depth-1) + "*" + m.plain(depth-1) + ")"
	}
	return "(" + m.plain(depth-1) + ">" + m.plain(depth-1) + ")"
}

func (m *maker) asText(plain string) string {
	return asText(plain, func() bool { return m.below(12) == 0 })
}

// Texts that are no atoms: calls, and what takes in all that stands behind it.
const (
	anAtom = iota
	aCall
	open
)

type made struct {
	text string
	sort int
}

func (m *maker) closed(in made, from int) string {
	if in.sort >= from || m.below(12) == 0 {
		return "(" + in.text + ")"
	}
	return in.text
}

func (m *maker) call(first made, seconds ...made) made {
	text := m.closed(first, open)
	for _, second := range seconds {
		text += m.closed(second, aCall)
	}
	return made{text, aCall}
}

func (m *maker) given(name byte, plains ...string) made {
	text := string([]byte{name})
	for i, plain := range plains {
		text += string("{,"[min(i, 1)]) + m.asText(plain)
	}
	if len(plains) > 0 {
		text += "}"
	}
	return made{text, anAtom}
}

// of makes an expression of the plain type.
func (m *maker) of(plain string, depth int) made {
	if depth == 0 {
		return m.leaf(plain)
	}
	op, first, second := split(plain)
	switch m.below(7) {
	case 0:
		return m.leaf(plain)
	case 1:
		return m.let(plain, depth)
	case 2:
		from := m.plain(1)
		return m.call(m.of("("+from+">"+plain+")", depth-1), m.of(from, depth-1))
	case 3:
		return m.generalCall(plain, depth-1)
	}
	switch {
	case op == '>':
		return m.function(first, second, depth)
	case op == '*':
		return m.call(m.given('P', first, second), m.of(first, depth-1), m.of(second, depth-1))
	case op == '[':
		return m.call(m.given('C', first), m.of(first, depth-1), m.of(plain, depth-1))
	case plain == "I":
		return m.call(m.given('A'), m.of("I", depth-1), m.of("I", depth-1))
	case plain == "B":
		return m.call(m.given('E'), m.of("I", depth-1), m.of("I", depth-1))
	}
	return m.leaf(plain)
}

func (m *maker) leaf(plain string) made {
	if name, ok := m.name(plain); ok {
		return name
	}
	op, first, _ := split(plain)
	switch {
	case plain == "I":
		return made{m.oneOf("0", "1", "9"), anAtom}
	case plain == "B":
		return made{m.oneOf("T", "F"), anAtom}
	case op == '[':
		return m.given('N', first)
	}
	same := made{"\\x:" + m.asText(plain) + ".x", open}
	return m.call(m.given('Y', plain), same)
}

// name finds a name of which the scheme can be taken at the plain type.
func (m *maker) name(plain string) (made, bool) {
	begin := m.below(26)
	for i := range letters {
		what := nearest(m.around, letters[(begin+i)%26])
		if what == nil {
			continue
		}
		at := map[string]string{}
		if !fits(*what, what.of, plain, at) {
			continue
		}
		var given []string
		for _, v := range what.own {
			if at[v] == "" {
				at[v] = m.plain(1)
			}
			given = append(given, at[v])
		}
		return m.given(what.name, given...), true
	}
	return made{}, false
}

func fits(what said, of, plain string, at map[string]string) bool {
	for _, v := range what.own {
		if v == of {
			if at[v] == "" {
				at[v] = plain
			}
			return at[v] == plain
		}
	}
	op, first, second := split(of)
	in, one, other := split(plain)
	switch {
	case op != in:
		return false
	case op == 0:
		return of == plain
	case op == '[':
		return fits(what, first, one, at)
	}
	return fits(what, first, one, at) && fits(what, second, other, at)
}

func (m *maker) generalCall(plain string, depth int) made {
	other := m.plain(1)
	switch m.below(5) {
	case 0:
		return m.call(m.given('L', plain, other), m.of("("+plain+"*"+other+")", depth))
	case 1:
		return m.call(m.given('R', other, plain), m.of("("+other+"*"+plain+")", depth))
	case 2:
		return m.call(m.given('J', plain), m.of("B", depth), m.of(plain, depth), m.of(plain, depth))
	case 3:
		return m.call(m.given('Y', plain), m.of("("+plain+">"+plain+")", depth))
	}
	step := "(" + other + ">(" + plain + ">" + plain + "))"
	return m.call(m.given('D', other, plain), m.of(step, depth), m.of(plain, depth), m.of("["+other+"]", depth))
}

func (m *maker) within(what said, plain string, depth int) string {
	m.around = append(m.around, what)
	inner := m.of(plain, depth-1)
	m.around = m.around[:len(m.around)-1]
	return m.closed(inner, open+1)
}

func (m *maker) function(from, to string, depth int) made {
	name := m.oneOf("x", "y", "z")
	body := m.within(said{name[0], from, nil}, to, depth)
	return made{"\\" + name + ":" + m.asText(from) + "." + body, open}
}

func (m *maker) let(plain string, depth int) made {
	name := m.oneOf("x", "f", "g")
	of := m.plain(2)
	var own []string
	text := ""
	variables := []string{"z9", "a0", "c0", "a1"}
	if m.careless && m.below(8) == 0 {
		variables = append(variables, "a0")
	}
	for _, v := range variables {
		if m.below(4) > 0 && (m.careless || !isFixed(m.around, v)) {
			own = append(own, v)
			text += strings.TrimSuffix(v, "0")
		}
	}
	value := m.closed(m.of(of, depth-1), open+1)
	rest := m.within(said{name[0], of, own}, plain, depth)
	return made{"@" + name + "<" + text + ">=" + value + ";" + rest, open}
}

// P4: typed expressions that are right have their types.
func TestCheckOfMadeOnes(t *testing.T) {
	m := maker{seed: 1}
	for range 20000 {
		plain := m.plain(2)
		text := m.of(plain, 1+m.below(4)).text
		wantCheck(t, text, oneForm(plain), shape.OK, 0)
	}
}

// changed puts a byte in the place of one of its sort, or takes a byte out, or puts any in.
func (m *maker) changed(text string) string {
	i := m.below(len(text))
	if m.below(4) > 0 {
		for _, sort := range []string{"xyzfgab", "IBab", "019TFN", "NCPLRJEAYD", "*>"} {
			if strings.IndexByte(sort, text[i]) >= 0 && m.below(2) == 0 {
				return text[:i] + sort[m.below(len(sort)):][:1] + text[i+1:]
			}
		}
	}
	const signs = "\\@xyfgz:.<>=;(){},019TFNCPLRJEAYDIBab[]*> \xff"
	sign := signs[m.below(len(signs)):][:1]
	return text[:i] + m.oneOf("", sign, sign+text[i:i+1]) + text[i+1:]
}

// P4: those with some bytes changed, against a second checker.
func TestCheckOfChangedOnes(t *testing.T) {
	m := maker{seed: 2, careless: true}
	met := map[shape.Errno]int{}
	for range 60000 {
		text := m.of(m.plain(2), 1+m.below(3)).text
		for range 1 + m.below(2) {
			text = strings.TrimSuffix(m.changed(text+" "), " ")
		}
		if len(text) > 100 {
			continue
		}
		met[holdsCheck(t, text)]++
	}
	wantMet(t, met, shape.OK, shape.ErrText, shape.ErrFree, shape.ErrCount, shape.ErrMixed, shape.ErrFixed)
}

// wantMet asks of texts that are made whether they are of all kinds that they should be of.
func wantMet(t *testing.T, met map[shape.Errno]int, all ...shape.Errno) {
	t.Helper()
	for _, e := range all {
		if met[e] < 100 {
			t.Errorf("the answer %d was met %d times alone", e, met[e])
		}
	}
}
