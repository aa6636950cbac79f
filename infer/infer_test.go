package infer

import (
	"errors"
	"reflect"
	"testing"

	"shape/check"
	"shape/expr"
	"shape/fault"
	"shape/kind"
)

func read(t *testing.T, text string) expr.Expr {
	t.Helper()
	e, err := expr.Read(text)
	if err != nil {
		t.Fatalf("%s is no expression: %v", text, err)
	}
	return e
}

func TestTyped(t *testing.T) {
	for text, want := range map[string]struct{ typed, of string }{
		"1":                       {"1", "I"},
		"N":                       {"N{a}", "[a]"},
		"A1":                      {"A1", "I>I"},
		"\\x.\\y.x":               {"\\x:a.\\y:b.x", "a>b>a"},
		"\\f.\\x.f(fx)":           {"\\f:a>a.\\x:a.f(fx)", "(a>a)>a>a"},
		"@i=\\x.x;ii1":            {"@i<a>=\\x:a.x;i{I>I}i{I}1", "I"},
		"\\x.@f=\\y.y;fx":         {"\\x:a.@f<b>=\\y:b.y;f{a}x", "a>a"},
		"\\x.@f=\\y.Jxy;f":        {"\\x:B.@f<a>=\\y:a.J{a}xy;f{b}", "B>a>a>a"},
		"\\x.@f=\\y.JTxy;f":       {"\\x:a.@f<>=\\y:a.J{a}Txy;f", "a>a>a"},
		"@f=@g=\\x.x;g;f":         {"@f<a>=@g<b>=\\x:b.x;g{a};f{c}", "a>a"},
		"\\x.@f=@g=\\y.Pxy;g;fN":  {"\\x:a.@f<b>=@g<c>=\\y:c.P{a,c}xy;g{b};f{[d]}N{d}", "a>a*[b]"},
		"@f=\\x.@g=\\y.Pxy;g;f1N": {"@f<ab>=\\x:a.@g<c>=\\y:c.P{a,c}xy;g{b};f{I,[d]}1N{d}", "I*[a]"},
		"(\\x.1)N":                {"(\\x:[a].1)N{a}", "I"},
		"@f=(\\x.1)N;f":           {"@f<>=(\\x:[a].1)N{a};f", "I"},
	} {
		typed, of, err := Typed(read(t, text))
		if err != nil {
			t.Errorf("Typed(%s): %v", text, err)
			continue
		}
		if got := expr.WriteTyped(typed); got != want.typed || kind.Write(of) != want.of {
			t.Errorf("Typed(%s) = %s, %s, want %s, %s", text, got, kind.Write(of), want.typed, want.of)
		}
		if got, err := check.Type(typed); err != nil || !kind.Same(got, of) {
			t.Errorf("Typed(%s) has not the type that it tells: %v", text, err)
		}
	}
}

func TestTypedLeavesTheExpression(t *testing.T) {
	const text = "@f=\\x.x;f(fN)"
	e := read(t, text)
	for range 2 {
		if _, of, err := Typed(e); err != nil || kind.Write(of) != "[a]" || !reflect.DeepEqual(e, read(t, text)) {
			t.Errorf("Typed tells %v, %v, and leaves %v", of, err, e)
		}
	}
}

func TestTypedRefuses(t *testing.T) {
	for text, place := range map[string]int{"x": 0, "11x": 2, "@x=x;x": 3, "(\\x.xx)x": 7} {
		typed, of, err := Typed(read(t, text))
		var at *fault.At
		if typed != nil || of != nil || !errors.Is(err, fault.Free) || !errors.As(err, &at) || at.Place != place {
			t.Errorf("Typed(%s) = %v, %v, %v, want fault.Free at %d", text, typed, of, err, place)
		}
	}
	for _, text := range []string{"11", "\\x.xx", "JT1T", "(\\i.ii)(\\x.x)", "@x=11;1", "\\x.@y=x;yy"} {
		typed, of, err := Typed(read(t, text))
		var at *fault.At
		if typed != nil || of != nil || !errors.Is(err, fault.Type) || errors.As(err, &at) {
			t.Errorf("Typed(%s) = %v, %v, %v, want fault.Type without a place", text, typed, of, err)
		}
	}
}
