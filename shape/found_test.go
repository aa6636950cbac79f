package shape_test

import (
	"strings"
	"testing"

	"shape/shape"
)

// P5 and P6: all small expressions with two names, against the second finder.
func TestFoundOfSmallOnes(t *testing.T) {
	met := map[shape.Errno]int{}
	for parts := 1; parts <= 6; parts++ {
		for _, text := range exprsOf(parts, "xy", "1C") {
			if len(text) <= 24 {
				met[holdsInfer(t, text)]++
			}
		}
	}
	wantMet(t, met, shape.OK, shape.ErrFree, shape.ErrType)
}

// P5: every type of an expression is an instance of the one that is found.
func TestInferIsMostGeneral(t *testing.T) {
	m := maker{seed: 3}
	met := map[shape.Errno]int{}
	for range 60000 {
		plain := m.plain(2)
		text := withoutTypes(m.of(plain, 1+m.below(4)).text)
		if len(text) > 24 {
			continue
		}
		general, errno, _ := shape.Infer(text)
		met[errno]++
		if is, e, _ := shape.Instance(general, asText(plain, never)); errno != shape.OK || e != shape.OK || !is {
			t.Errorf("Infer(%q) = %q %d, of which %s should be an instance", text, general, errno, plain)
		}
	}
	wantMet(t, met, shape.OK)
}

// P5 and P6: expressions that have a type, and those with some bytes changed.
func TestFoundOfMadeOnes(t *testing.T) {
	m := maker{seed: 4}
	met := map[shape.Errno]int{}
	for range 60000 {
		text := withoutTypes(m.of(m.plain(2), 1+m.below(4)).text)
		for range m.below(3) {
			text = strings.TrimSuffix(m.changed(text+" "), " ")
		}
		if len(text) <= 24 {
			met[holdsInfer(t, text)]++
		}
	}
	wantMet(t, met, shape.OK, shape.ErrText, shape.ErrFree, shape.ErrType)
}

// any makes an expression of that many parts, in which a name is seldom free. Many have no type.
func (m *maker) any(parts int, names string) made {
	switch choice := m.below(8); {
	case parts < 2 && choice < 5 && names != "":
		return made{m.oneOf(strings.Split(names, "")...), anAtom}
	case parts < 2:
		return made{m.oneOf("1", "T", "N", "C", "P", "L", "R", "J", "E", "A", "Y", "D", "P", "x"), anAtom}
	case parts == 2 || choice < 2:
		name := m.oneOf("x", "y", "f")
		return made{"\\" + name + "." + m.closed(m.any(parts-1, names+name), open+1), open}
	case choice < 4:
		name := m.oneOf("x", "y", "f")
		first := 1 + m.below(parts-2)
		value := m.closed(m.any(first, names), open+1)
		return made{"@" + name + "=" + value + ";" + m.closed(m.any(parts-1-first, names+name), open+1), open}
	}
	first := 1 + m.below(parts-2)
	return m.call(m.any(first, names), m.any(parts-1-first, names))
}

// P5 and P6: expressions of all kinds, against the second finder.
func TestFoundOfAnyOnes(t *testing.T) {
	m := maker{seed: 5}
	met := map[shape.Errno]int{}
	for range 60000 {
		if text := m.any(1+m.below(14), "").text; len(text) <= 24 {
			met[holdsInfer(t, text)]++
		}
	}
	wantMet(t, met, shape.OK, shape.ErrFree, shape.ErrType)
}
