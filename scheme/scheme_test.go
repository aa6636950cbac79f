package scheme

import (
	"errors"
	"testing"

	"shape/fault"
	"shape/kind"
)

func read(t *testing.T, text string) kind.Type {
	t.Helper()
	got, err := kind.Read(text)
	if err != nil {
		t.Fatalf("%s is no type: %v", text, err)
	}
	return got
}

func wantAt(t *testing.T, s *Scheme, want string, given ...string) {
	t.Helper()
	if s.Count() != len(given) {
		t.Fatalf("Count = %d, want %d", s.Count(), len(given))
	}
	var all []kind.Type
	for _, g := range given {
		all = append(all, read(t, g))
	}
	if got := s.At(all); !kind.Same(got, read(t, want)) {
		t.Errorf("At %v is %s, want %s", given, kind.Write(got), want)
	}
}

func TestAtTakesAllAtOnceInTheirOrder(t *testing.T) {
	a, b := kind.Variable{Letter: 'a'}, kind.Variable{Letter: 'b'}
	wantAt(t, New(read(t, "a>b>c")), "a>b>c")
	wantAt(t, New(read(t, "a>b>c"), a), "I>b>c", "I")
	wantAt(t, New(read(t, "a>b>c"), a, b), "b>a>c", "b", "a")
	wantAt(t, New(read(t, "a>b>c"), b, a), "[b]>B>c", "B", "[b]")
	wantAt(t, New(read(t, "I"), a), "I", "B")
}

func TestAtOtherTypesThanBefore(t *testing.T) {
	a, b := kind.Variable{Letter: 'a'}, kind.Variable{Letter: 'b'}
	s := New(read(t, "a>b>c"), a, b)
	wantAt(t, s, "I>B>c", "I", "B")
	wantAt(t, s, "I>B>c", "I", "B")
	wantAt(t, s, "I>I>c", "I", "I")
	wantAt(t, s, "B>I>c", "B", "I")
	wantAt(t, s, "[a]>(a>b)>c", "[a]", "a>b")
	given := []kind.Type{read(t, "[I]"), read(t, "[I]")}
	if s.At(given) != s.At(given) {
		t.Error("At the same types it is made again")
	}
}

func TestFixes(t *testing.T) {
	a, b, c, a1 := kind.Variable{Letter: 'a'}, kind.Variable{Letter: 'b'}, kind.Variable{Letter: 'c'}, kind.Variable{Letter: 'a', Digit: 1}
	s := New(read(t, "a>[b]"), a, c)
	for range 2 {
		if s.Fixes(a) || !s.Fixes(b) || s.Fixes(c) || s.Fixes(a1) {
			t.Errorf("of a>[b], with a and c its own: a %v, b %v, c %v, a1 %v", s.Fixes(a), s.Fixes(b), s.Fixes(c), s.Fixes(a1))
		}
	}
}

func TestAround(t *testing.T) {
	a, b := kind.Variable{Letter: 'a'}, kind.Variable{Letter: 'b'}
	none := &Around{}
	first, second, other := New(read(t, "a>b"), a), New(read(t, "I")), New(read(t, "a"))
	one := none.With('x', first)
	two := one.With('x', second).With('z', other)
	if none.Of('x') != nil || one.Of('x') != first || one.Of('z') != nil || two.Of('x') != second || two.Of('z') != other {
		t.Error("a name has another scheme than the nearest one")
	}
	if none.Fixes(b) || one.Fixes(a) || !one.Fixes(b) || !two.Fixes(a) || two.Fixes(b) {
		t.Error("other variables are fixed than those of the nearest schemes")
	}
}

func TestConstants(t *testing.T) {
	for _, c := range []struct {
		letter byte
		want   string
		given  []string
	}{
		{'N', "[I]", []string{"I"}},
		{'C', "I>[I]>[I]", []string{"I"}},
		{'P', "I>B>I*B", []string{"I", "B"}},
		{'L', "I*B>I", []string{"I", "B"}},
		{'R', "I*B>B", []string{"I", "B"}},
		{'J', "B>I>I>I", []string{"I"}},
		{'E', "I>I>B", nil},
		{'A', "I>I>I", nil},
		{'Y', "(I>I)>I", []string{"I"}},
		{'D', "(I>B>B)>B>[I]>B", []string{"I", "B"}},
	} {
		s, err := Constant(c.letter)
		if err != nil {
			t.Fatalf("Constant(%c): %v", c.letter, err)
		}
		wantAt(t, s, c.want, c.given...)
		for digit := range 10 {
			for letter := range 26 {
				if s.Fixes(kind.Variable{Letter: 'a' + byte(letter), Digit: byte(digit)}) {
					t.Errorf("%c has a variable that is not its own", c.letter)
				}
			}
		}
	}
}

func TestNoConstant(t *testing.T) {
	for _, letter := range []byte{'x', '1', 'T', 'F', 'I', 'B', 0} {
		if s, err := Constant(letter); s != nil || !errors.Is(err, fault.Free) {
			t.Errorf("Constant(%q) = %v, %v", letter, s, err)
		}
	}
}

func TestLiteral(t *testing.T) {
	for _, sign := range []byte("0123456789") {
		if Literal(sign) != (kind.Whole{}) {
			t.Errorf("%c is no whole number", sign)
		}
	}
	for _, sign := range []byte("TF") {
		if Literal(sign) != (kind.Truth{}) {
			t.Errorf("%c is no truth value", sign)
		}
	}
}
