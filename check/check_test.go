package check

import (
	"errors"
	"testing"

	"shape/expr"
	"shape/fault"
	"shape/kind"
)

func read(t *testing.T, text string) expr.Expr {
	t.Helper()
	e, err := expr.ReadTyped(text)
	if err != nil {
		t.Fatalf("%s is no typed expression: %v", text, err)
	}
	return e
}

func TestType(t *testing.T) {
	for text, want := range map[string]string{
		"1":                         "I",
		"\\x:a.\\y:b.x":             "a>b>a",
		"@f<a>=\\x:a.x;f{I>I}f{I}":  "I>I",
		"@f<a>=\\x:a.x;f{I>I}f{I}1": "I",
		"P{I,B}1T":                  "I*B",
	} {
		if got, err := Type(read(t, text)); err != nil || kind.Write(got) != want {
			t.Errorf("Type(%s) = %v, %v, want %s", text, got, err, want)
		}
	}
}

func TestTypeRefuses(t *testing.T) {
	for _, c := range []struct {
		text  string
		what  error
		place int
	}{
		{"\\x:I.y", fault.Free, 5},
		{"\\x:I.x{I}", fault.Count, 5},
		{"A1T", fault.Mixed, 2},
		{"@f<aa>=1;f", fault.Fixed, 4},
	} {
		got, err := Type(read(t, c.text))
		var at *fault.At
		if got != nil || !errors.Is(err, c.what) || !errors.As(err, &at) || at.Place != c.place {
			t.Errorf("Type(%s) = %v, %v, want %v at %d", c.text, got, err, c.what, c.place)
		}
	}
}
