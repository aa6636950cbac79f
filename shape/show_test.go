package shape_test

import (
	"strings"
	"testing"

	"shape/shape"
)

// withoutTypes takes out : and the type behind it, <..> and {..}.
func withoutTypes(typed string) string {
	out := ""
	for typed != "" {
		i := strings.IndexAny(typed, ":<{")
		if i < 0 {
			return out + typed
		}
		out += typed[:i]
		switch end := strings.IndexByte(typed[i:], map[byte]byte{':': '.', '<': '>', '{': '}'}[typed[i]]); {
		case end < 0:
			return out + typed[i:]
		case typed[i] == ':':
			typed = typed[i+end:]
		default:
			typed = typed[i+end+1:]
		}
	}
	return out
}

// wantShown asks of what Show answers that it is right and of that type, by the second checker,
// and by Check as far as that goes; and that it is the expression.
func wantShown(t *testing.T, text, form string) {
	t.Helper()
	typed, errno, place := shape.Show(text)
	if errno != shape.OK || place != 0 {
		t.Errorf("Show(%q) = %.200q %d %d", text, typed, errno, place)
		return
	}
	one, _, _ := shape.Print(text)
	if bare, e, _ := shape.Print(withoutTypes(typed)); e != shape.OK || bare != one {
		t.Errorf("Show(%q) = %.200q: without its types it is %q, want %q", text, typed, bare, one)
	}
	if len(typed) > 60000 {
		wantCheck(t, typed, "", shape.ErrLong, 0)
	} else if k, e, p := shape.Check(typed); e != shape.ErrBig && (k != form || e != shape.OK || p != 0) {
		t.Errorf("Show(%q) = %.200q, of which Check tells %.80q %d %d, want %.80q", text, typed, k, e, p, form)
		return
	}
	s := second{text: typed, endless: true}
	plain, what := s.whole()
	if what.errno != shape.OK || oneForm(plain) != form || s.at != len(typed) {
		t.Errorf("Show(%q) = %.200q, which has the plain type %.80q %v, want %.80q", text, typed, plain, what, form)
	}
}

// P6: answers that are longer than Check takes.
func TestShowLong(t *testing.T) {
	for text, form := range map[string]string{
		"@i=\\x.x;iiiiiiiiiiiiiiii": "a>a",
		"@i=\\x.x;iiiiiiiiiiiiiii1": "I",
		"@i=\\x.x;iiiiiiiiiiiiiiiD": "(a>b>b)>b>[a]>b",
		"@j=JT;jjjjjjjjjjjjjjjjjj":  "(a>a>a)>a>a>a",
	} {
		wantFound(t, text, form, shape.OK, 0)
		if typed, _, _ := shape.Show(text); len(typed) <= 60000 {
			t.Errorf("Show(%q) has %d bytes alone", text, len(typed))
		}
	}
}

// P6 and P1: answers of many millions of bytes, which are not checked, but end.
func TestShowVeryLong(t *testing.T) {
	for text, least := range map[string]int{"@a=\\x.Y;aaaaaaaaaaaaaaaa": 40000000, "DYDNYDNYDNYDNYDNYD": 50000000} {
		one, _, _ := shape.Print(text)
		typed, errno, place := shape.Show(text)
		if errno != shape.OK || place != 0 || len(typed) < least || withoutTypes(typed) != one {
			t.Errorf("Show(%q) = %.200q %d %d, of %d bytes", text, typed, errno, place, len(typed))
		}
	}
}

// P5, P6 and P1: types that double, byte by byte.
func TestFoundDoubling(t *testing.T) {
	for _, head := range []string{"@i=\\x.x;", "@i=JT;", "@i=\\x.x;JTi", "@i=\\x.x;\\f.JTf", "@i=\\x.x;P(iii)", "@i=\\x.\\y.x;"} {
		for text := head + "i"; len(text) <= 25; text += "i" {
			holdsInfer(t, text)
		}
	}
	const grows = "DYDNYDNYDNYDN"
	for i := range len(grows) {
		holdsInfer(t, grows[:i+1])
		holdsInfer(t, "\\f.JTf"+grows[:i+1])
	}
	for _, d := range []string{"@d=\\x.Pxx;", "@d=\\x.CxN;", "@d=\\x.\\y.x;"} {
		for inner := "1"; len(d+inner) <= 25; inner = "d(" + inner + ")" {
			holdsInfer(t, d+inner)
			holdsInfer(t, d+strings.Replace(inner, "1", "d", 1))
		}
	}
}

// P5 and P6: more variables than letters.
func TestFoundOfManyVariables(t *testing.T) {
	for text, last := range map[string]string{"@a=PPP;@b=Paa;@c=Pbb;Pcc": "f1", "@a=\\x.xLPPRRL;\\x.xaaaaaa": "a3"} {
		if holdsInfer(t, text) != shape.OK {
			t.Errorf("%q has no type", text)
		}
		if form, _, _ := shape.Infer(text); !strings.Contains(form, last) {
			t.Errorf("Infer(%q) = %q, where %s should stand", text, form, last)
		}
	}
}

// P6: variables of different @, of @ within @, and of none.
func TestShowVariables(t *testing.T) {
	for text, form := range map[string]string{
		"@f=\\x.x;@g=\\x.x;P(fg)g": "(a>a)*(b>b)",
		"@f=@g=\\x.x;Pgg;P(Lf)f":   "(a>a)*((b>b)*(c>c))",
		"@f=N;@g=Pff;@h=Pgg;Phg":   "[a]*[b]*([c]*[d])*([e]*[f])",
		"@a=PPP;@b=Paa;@c=Pbb;1":   "I",
		"\\x.@f=\\y.Pxy;@g=f;Pgf":  "a>(b>a*b)*(c>a*c)",
		"\\x.@f=\\y.y;@x=f;Pxf":    "a>(b>b)*(c>c)",
		"\\x.@x=Px;@f=x;Pxf":       "a>(b>a*b)*(c>a*c)",
		"(\\x.1)N":                 "I",
		"(\\x.\\y.y)N":             "a>a",
		"@f=(\\x.1)N;f":            "I",
		"@f=(\\x.1)(\\y.y);P(f)N":  "I*[a]",
		"@f=\\x.(\\y.x)N;Pff":      "(a>a)*(b>b)",
		"\\x.@f=(\\y.x)N;P(f)(N)":  "a>a*[b]",
		"\\x.(@f=x;\\y.1)N":        "a>I",
		"(\\x.@f=\\y.x;ff)N":       "[a]",
		"(\\x.\\y.@f=x;1)N":        "a>I",
		"@f=N;(\\x.1)f":            "I",
		"@f=\\x.N;(\\x.1)(f1)":     "I",
		"(@f=N;\\x.1)(@f=N;f)":     "I",
		"L(P1(\\x.x))":             "I",
		"@f=L(P1(\\x.x));Pff":      "I*I",
	} {
		wantFound(t, text, form, shape.OK, 0)
	}
}
