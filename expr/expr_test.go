package expr

import (
	"errors"
	"reflect"
	"testing"

	"shape/fault"
	"shape/kind"
)

func name(letter byte, place int) Name {
	return Name{Letter: letter, Place: place}
}

func TestReadAndWrite(t *testing.T) {
	one := Literal{'1'}
	for _, c := range []struct {
		text string
		form string
		tree Expr
	}{
		{"x", "x", name('x', 0)},
		{"((1))", "1", one},
		{"T", "T", Literal{'T'}},
		{"(N)", "N", Constant{Letter: 'N', Place: 1}},
		{"(xy)1", "xy1", Call{Call{name('x', 1), name('y', 2), 2}, one, 4}},
		{"x(y1)", "x(y1)", Call{name('x', 0), Call{name('y', 2), one, 3}, 1}},
		{"x((y))", "xy", Call{name('x', 0), name('y', 3), 1}},
		{"\\x.(xy)", "\\x.xy", Function{'x', nil, Call{name('x', 4), name('y', 5), 5}, 0}},
		{"(\\x.x)y", "(\\x.x)y", Call{Function{'x', nil, name('x', 4), 1}, name('y', 6), 6}},
		{"x(\\x.x)", "x(\\x.x)", Call{name('x', 0), Function{'x', nil, name('x', 5), 2}, 1}},
		{"@x=(\\y.y);(x1)", "@x=\\y.y;x1", Let{'x', nil, Function{'y', nil, name('y', 7), 4}, Call{name('x', 11), one, 12}}},
		{"(@x=1;x)y", "(@x=1;x)y", Call{Let{'x', nil, one, name('x', 6)}, name('y', 8), 8}},
		{"x(@x=1;x)", "x(@x=1;x)", Call{name('x', 0), Let{'x', nil, one, name('x', 7)}, 1}},
		{"@x=@y=1;y;x", "@x=@y=1;y;x", Let{'x', nil, Let{'y', nil, one, name('y', 8)}, name('x', 10)}},
		{"@x=1;@y=x;y", "@x=1;@y=x;y", Let{'x', nil, one, Let{'y', nil, name('x', 8), name('y', 10)}}},
	} {
		got, err := Read(c.text)
		if err != nil || !reflect.DeepEqual(got, c.tree) {
			t.Errorf("Read(%q) = %#v, %v, want %#v", c.text, got, err, c.tree)
		}
		if form := Write(c.tree); form != c.form {
			t.Errorf("Write of %q = %q, want %q", c.text, form, c.form)
		}
	}
}

func TestReadTyped(t *testing.T) {
	a, b1 := kind.Variable{Letter: 'a'}, kind.Variable{Letter: 'b', Digit: 1}
	for text, want := range map[string]Expr{
		"x":              name('x', 0),
		"x{a}":           Name{'x', []kind.Type{a}, 0},
		"(N{b1})":        Constant{'N', []kind.Type{b1}, 1},
		"P{I,[a]}x{B}":   Call{Constant{'P', []kind.Type{kind.Whole{}, kind.NewList(a)}, 0}, Name{'x', []kind.Type{kind.Truth{}}, 8}, 8},
		"\\x:a.x":        Function{'x', a, name('x', 5), 0},
		"\\x:a>I.1":      Function{'x', kind.NewFunction(a, kind.Whole{}), Literal{'1'}, 0},
		"(\\x:(a).x)(1)": Call{Function{'x', a, name('x', 8), 1}, Literal{'1'}, 10},
		"@x<>=1;x":       Let{'x', nil, Literal{'1'}, name('x', 7)},
		"@x<ab1a>=1;x":   Let{'x', []Own{{a, 3}, {b1, 4}, {a, 6}}, Literal{'1'}, name('x', 11)},
	} {
		got, err := ReadTyped(text)
		if err != nil || !reflect.DeepEqual(got, want) {
			t.Errorf("ReadTyped(%q) = %#v, %v, want %#v", text, got, err, want)
		}
	}
}

func TestReadKnowsAllSigns(t *testing.T) {
	for b := range 256 {
		sign := byte(b)
		var want Expr
		switch {
		case 'a' <= sign && sign <= 'z':
			want = name(sign, 0)
		case '0' <= sign && sign <= '9', sign == 'T', sign == 'F':
			want = Literal{sign}
		}
		for _, letter := range []byte{'N', 'C', 'P', 'L', 'R', 'J', 'E', 'A', 'Y', 'D'} {
			if letter == sign {
				want = Constant{Letter: sign}
			}
		}
		for _, read := range []func(string) (Expr, error){Read, ReadTyped} {
			got, err := read(string([]byte{sign}))
			if !reflect.DeepEqual(got, want) || (err == nil) != (want != nil) {
				t.Errorf("the byte %q is read as %#v, %v, want %#v", sign, got, err, want)
			}
		}
	}
}

func wantRefused(t *testing.T, read func(string) (Expr, error), text string, place int) {
	t.Helper()
	got, err := read(text)
	var at *fault.At
	if got != nil || !errors.Is(err, fault.Text) || !errors.As(err, &at) || at.Place != place {
		t.Errorf("%q is read as %v, %v, want fault.Text at %d", text, got, err, place)
	}
}

func TestReadRefuses(t *testing.T) {
	for text, place := range map[string]int{
		"": 0, "\\": 1, "\\x": 2, "\\x.": 3, "\\1.x": 1, "x\\y.y": 1, "x@y=1;y": 1,
		"@": 1, "@x;": 2, "@x=;": 3, "@x=1)": 4, "(x;": 2, "()": 1, "(x": 2, "x;": 1,
		"\\x:I.x": 2, "@x<>=1;x": 2, "N{I}": 1, "x{I}": 1,
	} {
		wantRefused(t, Read, text, place)
	}
}

func TestReadTypedRefuses(t *testing.T) {
	for text, place := range map[string]int{
		"": 0, "\\": 1, "\\x": 2, "\\x.x": 2, "\\x:": 3, "\\x:.": 3, "\\x:I": 4, "\\x:I>.": 5, "\\x:I.": 5, "\\x:1.x": 3,
		"@": 1, "@x": 2, "@x=1;x": 2, "@x<": 3, "@x<I>": 3, "@x<a": 4, "@x<a,": 4, "@x<a0": 4, "@x<a11": 5, "@x<a>": 5, "@x<a>>": 5,
		"@x<a>=": 6, "@x<>=1": 6, "@x<>=1;": 7, "@x<>=1)": 6, "x{": 2, "x{}": 2, "x{I": 3, "x{I,": 4, "x{I,}": 4, "x{I;": 3, "x{I}{": 4,
		"1{I}": 1, "T{I}": 1, "(x){I}": 3, "x{(I}": 4, "x{[I}": 4, "x{I}:": 4, "()": 1, "(x": 2, "x)": 1,
	} {
		wantRefused(t, ReadTyped, text, place)
	}
}

func TestWriteTyped(t *testing.T) {
	for text, want := range map[string]string{
		"1":                                 "1",
		"((x{a}))":                          "x{a}",
		"N{b1}":                             "N{a}",
		"P{b,[a]}(x{B})":                    "P{a,[b]}x{B}",
		"\\x:((b)).(\\y:(a>(b)).(x))":       "\\x:a.\\y:b>a.x",
		"(\\x:I.x)(1)":                      "(\\x:I.x)1",
		"x((\\x:(I>I).x)(1))":               "x((\\x:I>I.x)1)",
		"@x<>=(1);(x)":                      "@x<>=1;x",
		"@f<cab>=(\\x:b.x);f{I,(B),[(c)]}z": "@f<abc>=\\x:c.x;f{I,B,[a]}z",
		"(@f<z9>=N{z9};f{a})x":              "(@f<a>=N{a};f{b})x",
		"x(@f<>=1;f)":                       "x(@f<>=1;f)",
	} {
		e, err := ReadTyped(text)
		if err != nil {
			t.Fatalf("ReadTyped(%q): %v", text, err)
		}
		if got := WriteTyped(e); got != want {
			t.Errorf("WriteTyped of %q = %q, want %q", text, got, want)
		}
	}
}

func TestWriteLeavesTypesOut(t *testing.T) {
	for text, want := range map[string]string{
		"P{b,[a]}(x{B})":         "Px",
		"\\x:a>b.(x)":            "\\x.x",
		"@f<ab>=\\x:b.x;f{I,B}z": "@f=\\x.x;fz",
		"@f<>=1;1":               "@f=1;1",
	} {
		e, err := ReadTyped(text)
		if err != nil {
			t.Fatalf("ReadTyped(%q): %v", text, err)
		}
		if got := Write(e); got != want {
			t.Errorf("Write of %q = %q, want %q", text, got, want)
		}
	}
}

func TestNoneFree(t *testing.T) {
	for text, want := range map[string]int{
		"1": -1, "N": -1, "\\x.x": -1, "@x=1;x": -1, "\\x.@y=x;xy": -1, "\\a.\\z.az": -1,
		"x": 0, "1x": 1, "xy": 0, "\\x.y": 3, "@x=x;x": 3, "@x=x;y": 3, "@x=1;y": 5, "(\\x.x)x": 6, "(@x=1;x)x": 8, "\\z.a": 3, "\\a.z": 3,
	} {
		e, err := Read(text)
		if err != nil {
			t.Fatalf("Read(%q): %v", text, err)
		}
		err = NoneFree(e)
		var at *fault.At
		if want < 0 && err != nil || want >= 0 && (!errors.Is(err, fault.Free) || !errors.As(err, &at) || at.Place != want) {
			t.Errorf("NoneFree(%q) = %v, want the place %d", text, err, want)
		}
	}
}
