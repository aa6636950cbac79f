package expr

import (
	"errors"
	"testing"

	"shape/fault"
)

func TestReadAndWrite(t *testing.T) {
	x, y, one := Name{'x'}, Name{'y'}, Literal{'1'}
	for _, c := range []struct {
		text string
		form string
		tree Expr
	}{
		{"x", "x", x},
		{"((1))", "1", one},
		{"T", "T", Literal{'T'}},
		{"N", "N", Constant{'N'}},
		{"(xy)1", "xy1", Call{Call{x, y}, one}},
		{"x(y1)", "x(y1)", Call{x, Call{y, one}}},
		{"\\x.(xy)", "\\x.xy", Function{'x', Call{x, y}}},
		{"(\\x.x)y", "(\\x.x)y", Call{Function{'x', x}, y}},
		{"x(\\x.x)", "x(\\x.x)", Call{x, Function{'x', x}}},
		{"@x=(\\y.y);(x1)", "@x=\\y.y;x1", Let{'x', Function{'y', y}, Call{x, one}}},
		{"(@x=1;x)y", "(@x=1;x)y", Call{Let{'x', one, x}, y}},
		{"x(@x=1;x)", "x(@x=1;x)", Call{x, Let{'x', one, x}}},
		{"@x=@y=1;y;x", "@x=@y=1;y;x", Let{'x', Let{'y', one, y}, x}},
		{"@x=1;@y=x;y", "@x=1;@y=x;y", Let{'x', one, Let{'y', x, y}}},
	} {
		got, err := Read(c.text)
		if err != nil || got != c.tree {
			t.Errorf("Read(%q) = %#v, %v, want %#v", c.text, got, err, c.tree)
		}
		if form := Write(c.tree); form != c.form {
			t.Errorf("Write of %q = %q, want %q", c.text, form, c.form)
		}
	}
}

func TestReadKnowsAllSigns(t *testing.T) {
	for b := range 256 {
		sign := byte(b)
		var want Expr
		switch {
		case 'a' <= sign && sign <= 'z':
			want = Name{sign}
		case '0' <= sign && sign <= '9', sign == 'T', sign == 'F':
			want = Literal{sign}
		}
		for _, letter := range []byte{'N', 'C', 'P', 'L', 'R', 'J', 'E', 'A', 'Y', 'D'} {
			if letter == sign {
				want = Constant{sign}
			}
		}
		got, err := Read(string([]byte{sign}))
		if got != want || (err == nil) != (want != nil) {
			t.Errorf("Read of the byte %q = %#v, %v, want %#v", sign, got, err, want)
		}
	}
}

func TestReadRefuses(t *testing.T) {
	for _, c := range []struct {
		text  string
		place int
	}{
		{"", 0}, {"\\", 1}, {"\\x", 2}, {"\\x.", 3}, {"\\1.x", 1}, {"x\\y.y", 1}, {"x@y=1;y", 1},
		{"@", 1}, {"@x;", 2}, {"@x=;", 3}, {"@x=1)", 4}, {"(x;", 2}, {"()", 1}, {"(x", 2}, {"x;", 1},
	} {
		got, err := Read(c.text)
		var at *fault.At
		if got != nil || !errors.Is(err, fault.Text) || !errors.As(err, &at) || at.Place != c.place {
			t.Errorf("Read(%q) = %v, %v, want fault.Text at %d", c.text, got, err, c.place)
		}
	}
}
