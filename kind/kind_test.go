package kind

import (
	"errors"
	"reflect"
	"strings"
	"testing"

	"shape/fault"
)

func read(t *testing.T, text string) Type {
	t.Helper()
	got, err := Read(text)
	if err != nil {
		t.Fatalf("Read(%q): %v", text, err)
	}
	return got
}

func TestReadBuilds(t *testing.T) {
	a, a1 := Variable{Letter: 'a'}, Variable{Letter: 'a', Digit: 1}
	for _, c := range []struct {
		text string
		want Type
	}{
		{"I", Whole{}},
		{"B", Truth{}},
		{"a", a},
		{"a1", a1},
		{"z9", Variable{Letter: 'z', Digit: 9}},
		{"[a]", NewList(a)},
		{"((a))", a},
		{"I*B*a", NewPair(NewPair(Whole{}, Truth{}), a)},
		{"I*(B*a)", NewPair(Whole{}, NewPair(Truth{}, a))},
		{"I>B>a", NewFunction(Whole{}, NewFunction(Truth{}, a))},
		{"(I>B)>a", NewFunction(NewFunction(Whole{}, Truth{}), a)},
		{"I*B>a*a1", NewFunction(NewPair(Whole{}, Truth{}), NewPair(a, a1))},
		{"I*(B>a)", NewPair(Whole{}, NewFunction(Truth{}, a))},
		{"[I>[B]]", NewList(NewFunction(Whole{}, NewList(Truth{})))},
	} {
		if got := read(t, c.text); !reflect.DeepEqual(got, c.want) {
			t.Errorf("Read(%q) = %#v, want %#v", c.text, got, c.want)
		}
	}
}

func TestReadRefuses(t *testing.T) {
	for _, c := range []struct {
		text  string
		place int
	}{
		{"", 0}, {"T", 0}, {"a0", 1}, {"a11", 2}, {"1", 0}, {"ab", 1}, {"I>", 2}, {"I*", 2},
		{"I>>I", 2}, {"[]", 1}, {"()", 1}, {"[I)", 2}, {"(I]", 2}, {"[I", 2}, {"I]", 1}, {"I)", 1},
	} {
		got, err := Read(c.text)
		var at *fault.At
		if got != nil || !errors.Is(err, fault.Text) || !errors.As(err, &at) || at.Place != c.place {
			t.Errorf("Read(%q) = %v, %v, want fault.Text at %d", c.text, got, err, c.place)
		}
	}
}

func TestSame(t *testing.T) {
	texts := []string{"I", "B", "a", "a1", "b", "[I]", "[a]", "I*B", "I>B", "I*a", "I>a", "a*B", "a>B"}
	for i, one := range texts {
		for j, other := range texts {
			if got := Same(read(t, one), read(t, "("+other+")")); got != (i == j) {
				t.Errorf("Same(%s, %s) = %v", one, other, got)
			}
		}
	}
}

func TestInstanceKeepsTypesOfSameVariable(t *testing.T) {
	for _, c := range []struct {
		general, special string
		want             bool
	}{
		{"a>b>a", "b>a>b", true},
		{"a>b>a", "b>a>a", false},
		{"a*a", "[b]*[b]", true},
		{"a*a", "[b]*[c]", false},
		{"a*[a]", "[a]*[[a]]", true},
		{"a*[a]", "[a]*[a]", false},
	} {
		if got := Instance(read(t, c.general), read(t, c.special)); got != c.want {
			t.Errorf("Instance(%s, %s) = %v", c.general, c.special, got)
		}
	}
}

func TestNodes(t *testing.T) {
	for text, want := range map[string]int{
		"I": 1, "B": 1, "a": 1, "a1": 1, "((I))": 1, "[I]": 2, "[[a1]]": 3, "I*B": 3, "I>B": 3, "(I>B)>[a]*a": 8,
	} {
		if got := Nodes(read(t, text)); got != want {
			t.Errorf("Nodes(%s) = %d, want %d", text, got, want)
		}
	}
}

func TestWrite(t *testing.T) {
	for text, want := range map[string]string{
		"I":               "I",
		"B":               "B",
		"z9":              "a",
		"((([(b)])))":     "[a]",
		"b>a>b":           "a>b>a",
		"a1*a*a2*a1":      "a*b*c*a",
		"I>(B>I)":         "I>B>I",
		"(I>B)>I":         "(I>B)>I",
		"(I*B)*I":         "I*B*I",
		"I*(B*I)":         "I*(B*I)",
		"(I*B)>(I*B)":     "I*B>I*B",
		"(I>B)*(I>B)":     "(I>B)*(I>B)",
		"[(I>B)]":         "[I>B]",
		"[(I*B)]*([I])":   "[I*B]*[I]",
		"(((I>B)>I)>B)>I": "(((I>B)>I)>B)>I",
	} {
		if got := Write(read(t, text)); got != want {
			t.Errorf("Write(%s) = %s, want %s", text, got, want)
		}
	}
}

// A part that stands in a type again is written as it was written ahead, with the brackets
// that it needs there.
func TestWriteAgain(t *testing.T) {
	var part Type = NewFunction(Variable{Letter: 'y'}, Variable{Letter: 'x'})
	want := "a>b"
	for range 12 {
		part = NewFunction(part, NewPair(part, NewList(part)))
		want = "(" + want + ")>(" + want + ")*[" + want + "]"
	}
	for range 2 {
		if got := Write(NewPair(Variable{Letter: 'x'}, part)); got != "a*("+strings.NewReplacer("a", "b", "b", "a").Replace(want)+")" {
			t.Errorf("Write of a type that grows = %.100s, %d bytes", got, len(got))
		}
	}
}

// Of 260 variables, the last one named is z9.
func TestWriteNamesAllVariables(t *testing.T) {
	want := ""
	var all Type = Variable{Letter: 'z', Digit: 9}
	for digit := range 10 {
		for letter := range 26 {
			v := Variable{Letter: 'a' + byte(letter), Digit: byte(digit)}
			want += "*" + string([]byte{v.Letter})
			if digit > 0 {
				want += string([]byte{'0' + v.Digit})
			}
			if digit+letter > 0 {
				all = NewPair(all, Variable{Letter: 'z' - byte(letter), Digit: 9 - byte(digit)})
			}
		}
	}
	if got := Write(all); got != want[1:] {
		t.Errorf("Write of all variables = %s", got)
	}
}

func put(t *testing.T, text string, variables []Variable, given ...string) Type {
	t.Helper()
	var all []Type
	for _, g := range given {
		all = append(all, read(t, g))
	}
	return Put(read(t, text), variables, all)
}

func TestPut(t *testing.T) {
	a, b, a1 := Variable{Letter: 'a'}, Variable{Letter: 'b'}, Variable{Letter: 'a', Digit: 1}
	for _, c := range []struct {
		text      string
		variables []Variable
		given     []string
		want      string
	}{
		{"a>b>a*b", []Variable{a, b}, []string{"b", "a"}, "b>a>b*a"},
		{"a>b>a*b", []Variable{b, a}, []string{"I", "B"}, "B>I>B*I"},
		{"a>[b]", []Variable{a}, []string{"b>a"}, "(b>a)>[b]"},
		{"a*a1", []Variable{a1}, []string{"a"}, "a*a"},
		{"[a]*I", []Variable{b}, []string{"a"}, "[a]*I"},
		{"I>B", nil, nil, "I>B"},
	} {
		got := put(t, c.text, c.variables, c.given...)
		if want := read(t, c.want); !Same(got, want) || Nodes(got) != Nodes(want) {
			t.Errorf("Put(%s, %v, %v) = %s, want %s", c.text, c.variables, c.given, Write(got), c.want)
		}
	}
}

// What stands in a type many times is gone through once: else this would not end.
func TestTypesThatDouble(t *testing.T) {
	a := Variable{Letter: 'a'}
	double := func(times int) Type {
		var out Type = a
		for i := range times {
			out = []Type{NewPair(out, out), NewFunction(out, NewList(out))}[i%2]
		}
		return out
	}
	one, other := double(40), double(40)
	if !Same(one, other) || Same(one, double(41)) || Same(one, Put(other, []Variable{a}, []Type{Truth{}})) {
		t.Error("Same of types that double")
	}
	if all := VariablesOf(one); !all.Has(a) || all != (Variables{1}) {
		t.Error("VariablesOf a type that doubles")
	}
	if whole := Put(one, []Variable{a}, []Type{Whole{}}); VariablesOf(whole) != (Variables{}) {
		t.Error("Put in a type that doubles")
	}
	if put := Put(one, []Variable{{Letter: 'b'}}, []Type{Whole{}}); put != one {
		t.Error("Put made a type anew without need")
	}
}

// One part of the one against several parts of the other, and the other way round.
func TestSameWithPartsThatAreOne(t *testing.T) {
	list := NewList(Whole{})
	twice := NewPair(list, list)
	for text, want := range map[string]bool{"[I]*[I]": true, "[I]*[B]": false, "[B]*[I]": false, "[B]*[B]": false} {
		if Same(twice, read(t, text)) != want || Same(read(t, text), twice) != want {
			t.Errorf("Same of [I]*[I] and %s is not %v", text, want)
		}
	}
}

func TestVariables(t *testing.T) {
	all := VariablesOf(read(t, "a>[b1]*(z9>I)"))
	for digit := range 10 {
		for letter := range 26 {
			v := Variable{Letter: 'a' + byte(letter), Digit: byte(digit)}
			want := v == Variable{'a', 0} || v == Variable{'b', 1} || v == Variable{'z', 9}
			if all.Has(v) != want {
				t.Errorf("Has(%v) is not %v", v, want)
			}
		}
	}
	all.Remove(Variable{'z', 9})
	all.Remove(Variable{'c', 0})
	if all.Has(Variable{'z', 9}) || !all.Has(Variable{'b', 1}) {
		t.Error("Remove takes out another variable")
	}
}
