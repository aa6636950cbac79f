package kind

import (
	"errors"
	"testing"

	"shape/fault"
)

func read(t *testing.T, text string) Type {
	t.Helper()
	got, err := Read(text)
	if err != nil {
		t.Fatalf("Read(%q): %v", text, err)
	}
	return got
}

func TestReadBuilds(t *testing.T) {
	a, a1 := Variable{Letter: 'a'}, Variable{Letter: 'a', Digit: 1}
	for _, c := range []struct {
		text string
		want Type
	}{
		{"I", Whole{}},
		{"B", Truth{}},
		{"a", a},
		{"a1", a1},
		{"z9", Variable{Letter: 'z', Digit: 9}},
		{"[a]", List{a}},
		{"((a))", a},
		{"I*B*a", Pair{Pair{Whole{}, Truth{}}, a}},
		{"I*(B*a)", Pair{Whole{}, Pair{Truth{}, a}}},
		{"I>B>a", Function{Whole{}, Function{Truth{}, a}}},
		{"(I>B)>a", Function{Function{Whole{}, Truth{}}, a}},
		{"I*B>a*a1", Function{Pair{Whole{}, Truth{}}, Pair{a, a1}}},
		{"I*(B>a)", Pair{Whole{}, Function{Truth{}, a}}},
		{"[I>[B]]", List{Function{Whole{}, List{Truth{}}}}},
	} {
		if got := read(t, c.text); got != c.want {
			t.Errorf("Read(%q) = %#v, want %#v", c.text, got, c.want)
		}
	}
}

func TestReadRefuses(t *testing.T) {
	for _, c := range []struct {
		text  string
		place int
	}{
		{"", 0}, {"T", 0}, {"a0", 1}, {"a11", 2}, {"1", 0}, {"ab", 1}, {"I>", 2}, {"I*", 2},
		{"I>>I", 2}, {"[]", 1}, {"()", 1}, {"[I)", 2}, {"(I]", 2}, {"[I", 2}, {"I]", 1}, {"I)", 1},
	} {
		got, err := Read(c.text)
		var at *fault.At
		if got != nil || !errors.Is(err, fault.Text) || !errors.As(err, &at) || at.Place != c.place {
			t.Errorf("Read(%q) = %v, %v, want fault.Text at %d", c.text, got, err, c.place)
		}
	}
}

func TestSame(t *testing.T) {
	texts := []string{"I", "B", "a", "a1", "b", "[I]", "[a]", "I*B", "I>B", "I*a", "I>a", "a*B", "a>B"}
	for i, one := range texts {
		for j, other := range texts {
			if got := Same(read(t, one), read(t, "("+other+")")); got != (i == j) {
				t.Errorf("Same(%s, %s) = %v", one, other, got)
			}
		}
	}
}

func TestInstanceKeepsTypesOfSameVariable(t *testing.T) {
	for _, c := range []struct {
		general, special string
		want             bool
	}{
		{"a>b>a", "b>a>b", true},
		{"a>b>a", "b>a>a", false},
		{"a*a", "[b]*[b]", true},
		{"a*a", "[b]*[c]", false},
		{"a*[a]", "[a]*[[a]]", true},
		{"a*[a]", "[a]*[a]", false},
	} {
		if got := Instance(read(t, c.general), read(t, c.special)); got != c.want {
			t.Errorf("Instance(%s, %s) = %v", c.general, c.special, got)
		}
	}
}
