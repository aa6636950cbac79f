package shape_test

import (
	"strings"
	"testing"

	"shape/shape"
)

func wantPrint(t *testing.T, text, form string, errno shape.Errno, place int) {
	t.Helper()
	f, e, p := shape.Print(text)
	if f != form || e != errno || p != place {
		t.Errorf("Print(%.80q) = %q %d %d, want %q %d %d", text, f, e, p, form, errno, place)
	}
}

// P3: needless brackets are left out, needed ones are kept.
func TestPrintOneForm(t *testing.T) {
	for text, form := range map[string]string{
		"0":                        "0",
		"(((x)))":                  "x",
		"(N)":                      "N",
		"((ab)(c))(d)":             "abcd",
		"a(b)(cd)":                 "ab(cd)",
		"a((bc))":                  "a(bc)",
		"(a(bc))d":                 "a(bc)d",
		"(\\x.x)":                  "\\x.x",
		"((\\x.x))y":               "(\\x.x)y",
		"\\x.((\\y.(y)))":          "\\x.\\y.y",
		"\\x.((\\y.y)x)":           "\\x.(\\y.y)x",
		"(\\x.x)((\\y.y))":         "(\\x.x)(\\y.y)",
		"f(\\x.x)y":                "f(\\x.x)y",
		"(f(\\x.x))":               "f(\\x.x)",
		"@x=(\\y.(y));(\\z.x)":     "@x=\\y.y;\\z.x",
		"@x=(@y=1;(y));((x))":      "@x=@y=1;y;x",
		"@x=1;(@y=2;y)":            "@x=1;@y=2;y",
		"@x=(ab);(cd)":             "@x=ab;cd",
		"(@x=1;x)(@y=2;y)":         "(@x=1;x)(@y=2;y)",
		"\\x.(@y=x;y)":             "\\x.@y=x;y",
		"@x=(\\y.@z=1;y);x":        "@x=\\y.@z=1;y;x",
		"NCPLRJEAYDTF0123456789xy": "NCPLRJEAYDTF0123456789xy",
	} {
		wantPrint(t, text, form, shape.OK, 0)
	}
}

// P3: the place of the first byte that is wrong, or the length of a text that breaks off.
func TestPrintRefuses(t *testing.T) {
	for text, place := range map[string]int{
		"":            0,
		" ":           0,
		"\x00":        0,
		"x\x00":       1,
		"\xff":        0,
		"xé":          1,
		"K":           0,
		"xKy":         1,
		"x y":         1,
		"ab)c":        2,
		"ab;":         2,
		"a.b":         1,
		"f\\x.x":      1,
		"f@x=1;x":     1,
		"\\":          1,
		"\\x":         2,
		"\\xx.x":      2,
		"\\x.":        3,
		"\\N.N":       1,
		"\\(x).x":     1,
		"@":           1,
		"@x":          2,
		"@x.x":        2,
		"@x=":         3,
		"@x=;x":       3,
		"@x=1":        4,
		"@x=1;":       5,
		"@1=1;x":      1,
		"(":           1,
		"()":          1,
		"(x;y)":       2,
		"(x":          2,
		"((((((((((":  10,
		"@x=(1;x":     5,
		"@x=1;x;x":    6,
		"\\x.x;x":     4,
		"x<a>":        1,
		"@x<a>=1;x":   2,
		"[x]":         0,
		"I":           0,
		"\\x.(\\y.y(": 9,
	} {
		wantPrint(t, text, "", shape.ErrText, place)
	}
}

// P3 and P1: ErrLong above 24 bytes, whatever they are, and no place.
func TestPrintLimit(t *testing.T) {
	for _, unit := range []string{"x", "1", "(", ")", " ", "\\", "\x00", "\xff"} {
		for _, length := range []int{25, 26, 1000, 100000} {
			wantPrint(t, strings.Repeat(unit, length), "", shape.ErrLong, 0)
		}
	}
	full := strings.Repeat("x", 24)
	wantPrint(t, full, full, shape.OK, 0)
	wantPrint(t, strings.Repeat("(", 24), "", shape.ErrText, 24)
	wantPrint(t, strings.Repeat("(", 12)+"x"+strings.Repeat(")", 11), "", shape.ErrText, 24)
	wantPrint(t, strings.Repeat("(", 11)+"xy"+strings.Repeat(")", 11), "xy", shape.OK, 0)
	wantPrint(t, strings.Repeat("(", 12)+"x"+strings.Repeat(")", 12), "", shape.ErrLong, 0)
	wantPrint(t, strings.Repeat("x", 23)+")", "", shape.ErrText, 23)
}

// P3: with every byte behind every short beginning.
func TestPrintPlaces(t *testing.T) {
	exprGrammar.beginnings(6, "\\@x.=;()1N", func(text string, at rows) {
		_, errno, place := shape.Print(text)
		whole := exprGrammar.whole(at)
		if whole && errno != shape.OK || !whole && (errno != shape.ErrText || place != len(text)) {
			t.Errorf("Print(%q) = %d %d, and it is an expression: %v", text, errno, place, whole)
		}
		for b := range 256 {
			on := text + string([]byte{byte(b)})
			if exprGrammar.step(at, byte(b)) == nil {
				wantPrint(t, on, "", shape.ErrText, len(text))
				wantPrint(t, on+"x)", "", shape.ErrText, len(text))
			}
		}
	})
}

// exprsOf answers all expressions of that many parts, of these names and other atoms, with
// brackets around all that are no atoms: so that no two of them are the same, however brackets
// are taken.
func exprsOf(parts int, names, others string) []string {
	if parts == 1 {
		return strings.Split(names+others, "")
	}
	var out []string
	for _, name := range strings.Split(names, "") {
		for _, body := range exprsOf(parts-1, names, others) {
			out = append(out, "(\\"+name+"."+body+")")
		}
	}
	for first := 1; first < parts-1; first++ {
		for _, one := range exprsOf(first, names, others) {
			for _, other := range exprsOf(parts-1-first, names, others) {
				out = append(out, "("+one+other+")")
				for _, name := range strings.Split(names, "") {
					out = append(out, "(@"+name+"="+one+";"+other+")")
				}
			}
		}
	}
	return out
}

func withoutBrackets(text string) string {
	return strings.NewReplacer("(", "", ")", "").Replace(text)
}

// withoutPair takes out the bracket at the place and the one that closes it.
func withoutPair(text string, place int) string {
	depth := 0
	for i := place; i < len(text); i++ {
		switch text[i] {
		case '(':
			depth++
		case ')':
			depth--
		}
		if depth == 0 {
			return text[:place] + text[place+1:i] + text[i+1:]
		}
	}
	return text
}

// P3: other expressions have other forms, and no bracket of a form can be left out.
func TestPrintBrackets(t *testing.T) {
	from := map[string]string{}
	for parts := 1; parts <= 7; parts++ {
		for _, text := range exprsOf(parts, "x", "1") {
			if len(text) > 24 {
				continue
			}
			form, errno, _ := shape.Print(text)
			if errno != shape.OK || withoutBrackets(form) != withoutBrackets(text) {
				t.Fatalf("Print(%q) = %q %d", text, form, errno)
			}
			if other := from[form]; other != "" {
				t.Errorf("Print(%q) = Print(%q) = %q", text, other, form)
			}
			from[form] = text
			wantPrint(t, form, form, shape.OK, 0)
			for i := range len(form) {
				if form[i] != '(' {
					continue
				}
				if again, _, _ := shape.Print(withoutPair(form, i)); again == form {
					t.Errorf("Print(%q) = %q: the bracket at %d is needless", text, form, i)
				}
			}
		}
	}
}
