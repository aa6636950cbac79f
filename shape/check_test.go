package shape_test

import (
	"strings"
	"testing"

	"shape/shape"
)

func wantCheck(t *testing.T, typed, form string, errno shape.Errno, place int) {
	t.Helper()
	f, e, p := shape.Check(typed)
	if f != form || e != errno || p != place {
		t.Errorf("Check(%.200q) = %.80q %d %d, want %.80q %d %d", typed, f, e, p, form, errno, place)
	}
}

// P4: the types of literals and constants, and calls of these.
func TestCheckOfConstants(t *testing.T) {
	for typed, form := range map[string]string{
		"0":                "I",
		"9":                "I",
		"T":                "B",
		"F":                "B",
		"(((1)))":          "I",
		"N{B}":             "[B]",
		"C{b}":             "a>[a]>[a]",
		"P{I,B}":           "I>B>I*B",
		"L{I,B}":           "I*B>I",
		"R{I,B}":           "I*B>B",
		"J{I}":             "B>I>I>I",
		"E":                "I>I>B",
		"A":                "I>I>I",
		"Y{I}":             "(I>I)>I",
		"D{I,B}":           "(I>B>B)>B>[I]>B",
		"P{b,a}":           "a>b>a*b",
		"P{[b],[a]}":       "[a]>[b]>[a]*[b]",
		"P{b,I}":           "a>I>a*I",
		"P{a*b,b>a}":       "a*b>(b>a)>a*b*(b>a)",
		"P{a,b*c}":         "a>b*c>a*(b*c)",
		"P{I>I,I}":         "(I>I)>I>(I>I)*I",
		"P{I,I>I}":         "I>(I>I)>I*(I>I)",
		"A1":               "I>I",
		"A12":              "I",
		"A(A12)3":          "I",
		"(A)(1)(2)":        "I",
		"C{I}1(C{I}2N{I})": "[I]",
	} {
		wantCheck(t, typed, form, shape.OK, 0)
	}
}

// P4: functions and @: where a name stands for what, and schemes taken at types.
func TestCheckOfNames(t *testing.T) {
	for typed, form := range map[string]string{
		"\\x:I.T":                              "I>B",
		"\\x:b>a.x":                            "(a>b)>a>b",
		"\\x:a.\\x:b.x":                        "a>b>b",
		"\\f:I>B.f1":                           "(I>B)>B",
		"\\f:(a>b).\\x:a.fx":                   "(a>b)>a>b",
		"\\f:((a)>(b)).\\x:((a)).(f)(x)":       "(a>b)>a>b",
		"(\\f:I>I.f(f1))(A1)":                  "I",
		"(\\x:I*I*I.1)(P{I*I,I}(P{I,I}12)3)":   "I",
		"(\\x:(I>(B>I)).1)(\\y:I.\\z:B.y)":     "I",
		"@x<>=1;x":                             "I",
		"@x<>=1;@x<>=P{I,I}xx;x":               "I*I",
		"\\x:B.@x<>=J{I}x12;x":                 "B>I",
		"(@x<>=1;A)2":                          "I>I",
		"A(@x<>=1;x)(@y<>=2;y)":                "I",
		"(\\x:B.x)((\\x:I.E1x)2)":              "B",
		"@x<>=(\\x:I.x);x":                     "I>I",
		"@f<a>=\\x:a.x;P{I,B}(f{I}1)(f{B}T)":   "I*B",
		"@f<a>=\\x:a.x;f{a>a}f{a}":             "a>a",
		"@f<a>=\\x:b.x;f{I}":                   "a>a",
		"@f<ab>=\\x:a.\\y:b.x;f{I,B}":          "I>B>I",
		"@f<ba>=\\x:a.\\y:b.x;f{I,B}":          "B>I>B",
		"@f<cab>=\\x:a.\\y:b.x;f{[I],I,B}":     "I>B>I",
		"@f<>=\\x:a.\\y:b.x;f":                 "a>b>a",
		"@f<a1>=\\x:a1.\\y:a.x;f{I}":           "I>a>I",
		"@f<a>=\\x:a1.\\y:a.x;f{I}":            "a>I>a",
		"@f<ab>=\\x:a.\\y:b.x;f{b,a}":          "a>b>a",
		"@f<ab>=\\x:a.\\y:b.x;f{b,I}":          "a>I>a",
		"@f<ab>=\\x:a.\\y:b.x;f{[b],[a]}":      "[a]>[b]>[a]",
		"@f<a>=\\x:a.\\y:b.x;f{b}":             "a>a>a",
		"@f<a>=\\x:a.x;@g<b>=f{b>b};g{I}":      "(I>I)>I>I",
		"@f<a>=\\x:a.@g<b>=\\y:b.x;g{I}1;f{B}": "B>B",
	} {
		wantCheck(t, typed, form, shape.OK, 0)
	}
}

// P4: every letter is a name, and each stands for what is said of it.
func TestCheckOfAllNames(t *testing.T) {
	head, form := "", ""
	for i := range letters {
		of := strings.Repeat("[", i) + "I" + strings.Repeat("]", i)
		head += "\\" + letters[i:i+1] + ":" + of + "."
		form += of + ">"
	}
	for i := range letters {
		of := strings.Repeat("[", i) + "I" + strings.Repeat("]", i)
		wantCheck(t, head+letters[i:i+1], form+of, shape.OK, 0)
	}
}

// P4: ErrText, within types, within the variables of an @, within curly brackets, and behind
// a whole typed expression.
func TestCheckRefusesTexts(t *testing.T) {
	for typed, place := range map[string]int{
		"":                 0,
		" ":                0,
		"\x00":             0,
		"1\x00":            1,
		"\xff":             0,
		"xé":               1,
		"I":                0,
		"K":                0,
		"\\":               1,
		"\\x":              2,
		"\\x.x":            2,
		"\\x:":             3,
		"\\x:.x":           3,
		"\\x:T.x":          3,
		"\\x:I":            4,
		"\\x:Ix.x":         4,
		"\\x:I>.x":         5,
		"\\x:I*":           5,
		"\\x:[I.x":         5,
		"\\x:(I].x":        5,
		"\\x:[].x":         4,
		"\\x:a0.x":         4,
		"\\x:a11.x":        5,
		"\\x:I.":           5,
		"\\x:I.\\":         6,
		"\\x{I}:I.x":       2,
		"@":                1,
		"@x":               2,
		"@x=1;x":           2,
		"@x<":              3,
		"@x<I>=1;x":        3,
		"@x<1>=1;x":        3,
		"@x<a":             4,
		"@x<a,b>=1;x":      4,
		"@x<a0>=1;x":       4,
		"@x<a12>=1;x":      5,
		"@x<a>":            5,
		"@x<a>>=1;x":       5,
		"@x<a>=":           6,
		"@x<a>=;x":         6,
		"@x<a>=1":          7,
		"@x<a>=1)":         7,
		"@x<a>=1;":         8,
		"@x<a>=1;x;x":      9,
		"N{":               2,
		"N{}":              2,
		"N{T}":             2,
		"N{I":              3,
		"N{I,":             4,
		"N{I,}":            4,
		"N{I;B}":           3,
		"N{I)}":            3,
		"N{[I}]":           4,
		"N{I}}":            4,
		"N{I}{I}":          4,
		"N{I}>":            4,
		"x{a}:I":           4,
		"1{I}":             1,
		"T{I}":             1,
		"(x){I}":           3,
		"(":                1,
		"()":               1,
		"(x":               2,
		"x)":               1,
		"x]":               1,
		"x\\y:I.y":         1,
		"x@y<>=1;y":        1,
		"(x;":              2,
		"A1T)":             3,
		"@f<aa>=x{I};y(;":  14,
		"\\x:a.@f<a>=1;f ": 14,
	} {
		wantCheck(t, typed, "", shape.ErrText, place)
	}
}

// P4: with every byte at every place of some texts that hold all there is.
func TestCheckPlaces(t *testing.T) {
	for _, typed := range []string{
		"\\x:(a1>[I])*B>b.x(1)",
		"@f<ab2>=\\x:a.x;f{[I],B*B}(1)T",
		"(@x<>=N{a>a,(I)};P{a1}Fx{b})9",
	} {
		at := typedGrammar.begin()
		for i := range len(typed) {
			if typedGrammar.whole(at) {
				if _, e, _ := shape.Check(typed[:i]); e == shape.ErrText {
					t.Errorf("Check(%q) = %d: it is a typed expression", typed[:i], e)
				}
			} else {
				wantCheck(t, typed[:i], "", shape.ErrText, i)
			}
			for b := range 256 {
				on := typed[:i] + string([]byte{byte(b)})
				if typedGrammar.step(at, byte(b)) == nil {
					wantCheck(t, on, "", shape.ErrText, i)
					wantCheck(t, on+typed[i:], "", shape.ErrText, i)
				} else if _, e, p := shape.Check(on); e == shape.ErrText && p != i+1 {
					t.Errorf("Check(%q) = %d %d, want the place %d if any", on, e, p, i+1)
				}
			}
			at = typedGrammar.step(at, typed[i])
		}
	}
}

// P4: with every byte behind every short beginning.
func TestCheckShortBeginnings(t *testing.T) {
	typedGrammar.beginnings(4, "\\@x:.<>=;(){},1NIa[]*", func(text string, at rows) {
		for b := range 256 {
			if typedGrammar.step(at, byte(b)) == nil {
				wantCheck(t, text+string([]byte{byte(b)}), "", shape.ErrText, len(text))
			}
		}
		if !typedGrammar.whole(at) {
			wantCheck(t, text, "", shape.ErrText, len(text))
		}
	})
}

// P4: ErrFree: the place of the name.
func TestCheckFree(t *testing.T) {
	for typed, place := range map[string]int{
		"x":                   0,
		"((x))":               2,
		"x{I,B}":              0,
		"\\y:I.x":             5,
		"@x<>=x;1":            5,
		"@x<>=1;y":            7,
		"@x<a>=\\y:a.x;x{I}":  11,
		"(\\x:I.x)x":          8,
		"A(@x<>=1;x)x":        11,
		"@f<>=\\x:I.x;x":      12,
		"\\x:y.y":             5,
		"@f<x>=\\y:x.y;f{I}x": 17,
		"xy":                  0,
		"1x":                  1,
	} {
		wantCheck(t, typed, "", shape.ErrFree, place)
	}
}

// P4: ErrCount: the place of the name or constant.
func TestCheckCount(t *testing.T) {
	for typed, place := range map[string]int{
		"N":                       0,
		"N{I,I}":                  0,
		"C":                       0,
		"P":                       0,
		"P{I}":                    0,
		"P{I,I,I}":                0,
		"L{I}":                    0,
		"R{I}":                    0,
		"J":                       0,
		"J{I,B}":                  0,
		"E{I}":                    0,
		"A{I}":                    0,
		"Y":                       0,
		"D{I}":                    0,
		"\\x:I.x{I}":              5,
		"\\x:a.x{I}":              5,
		"@f<>=N{a};f{I}":          10,
		"@f<a>=N{a};f":            11,
		"@f<a>=N{a};(f)":          12,
		"@f<a>=N{a};f{I,I}":       11,
		"@f<a>=N{a};\\f:I.f{I}":   16,
		"@f<a>=N{a};@f<>=1;f{I}":  18,
		"@f<ab>=1;f{I}":           9,
		"A1(N)":                   3,
		"@f<a>=N{a};f{I}(f{I,B})": 16,
	} {
		wantCheck(t, typed, "", shape.ErrCount, place)
	}
}

// P4: ErrFixed: the place of the first variable that may not stand there.
func TestCheckFixed(t *testing.T) {
	for typed, place := range map[string]int{
		"@f<aa>=1;1":                                   4,
		"@f<aba>=1;1":                                  5,
		"@f<a1b2a1>=1;1":                               7,
		"@f<abb1b>=1;1":                                7,
		"@f<ab1bb1>=1;1":                               7,
		"\\x:a.@f<a>=1;1":                              8,
		"\\x:a.@f<ba>=1;1":                             9,
		"\\x:a.@f<bba>=1;1":                            9,
		"\\x:a.@f<abb>=1;1":                            8,
		"\\x:a.@f<aa>=1;1":                             8,
		"\\x:I>[b*a1].@f<aba1>=1;1":                    16,
		"\\x:a.\\y:b.@f<b>=1;1":                        13,
		"\\x:a.\\y:b.@f<a>=1;1":                        13,
		"\\x:a.\\y:a.\\x:I.@f<a>=1;1":                  18,
		"@x<>=N{a};@x<a>=N{a};1":                       13,
		"@x<>=N{a};@f<a>=1;1":                          13,
		"@x<b>=P{a,b};@f<ba>=1;1":                      17,
		"@x<a>=N{a};@y<>=x{b};@f<ab>=1;1":              25,
		"@f<>=@x<>=N{a};@g<a>=1;1;1":                   18,
		"\\x:a.@f<>=@g<a>=1;1;1":                       13,
		"\\x:a.(1)(@g<a>=1;1)":                         12,
		"\\f:a.@f<a>=1;1":                              8,
		"\\x:a.@f<a>=y;1":                              8,
		"\\x:a.@f<a>=11;N":                             8,
		"@x<a>=N{a};@y<>=x{a};\\x:I.@f<a>=1;1":         29,
		"@x<>=N{a};(\\x:I.1)(@f<a>=1;1)":               22,
		"A((\\x:b.1)(Y{b}(\\x:b.x)))(\\x:a.@f<a>=1;1)": 34,
	} {
		wantCheck(t, typed, "", shape.ErrFixed, place)
	}
}

// P4: variables that may stand there: those of a scheme's own, of a name that another one
// hides, and of a name that is not around.
func TestCheckNotFixed(t *testing.T) {
	for typed, form := range map[string]string{
		"\\x:a.@f<b>=\\y:b.P{a,b}xy;P{a*I,a*B}(f{I}1)(f{B}T)": "a>a*I*(a*B)",
		"\\x:a.\\x:I.@f<a>=N{a};f{B}":                         "a>I>[B]",
		"\\x:a.@x<>=1;@f<a>=N{a};f{B}":                        "a>[B]",
		"@x<>=N{a};@x<>=1;@f<a>=N{a};f{B}":                    "[B]",
		"@x<>=N{a};\\x:I.@f<a>=N{a};f{B}":                     "I>[B]",
		"@x<a>=N{a};@f<a>=x{a};f{B}":                          "[B]",
		"@x<ab>=P{a,b};@f<ba>=x{a,b};f{I,B}":                  "B>I>B*I",
		"@x<>=(\\y:a.1);@f<b>=N{b};f{I}":                      "[I]",
		"@x<>=@y<a>=\\x:a.x;y{I};@z<a>=N{a};z{I}":             "[I]",
		"@x<>=(\\y:a.1)(Y{a}(\\y:a.y));@f<a>=N{a};f{I}":       "[I]",
		"A((\\x:[a].1)N{a})(@f<a>=N{a};(\\x:[I].1)f{I})":      "I",
		"\\x:a1.@f<a>=N{a};f{a1}":                             "a>[a]",
		"\\x:a.@f<a1>=N{a1};f{a}":                             "a>[a]",
		"@f<abcz9>=1;f{I,I,I,I}":                              "I",
	} {
		wantCheck(t, typed, form, shape.OK, 0)
	}
}

// P4: ErrMixed: the place of the second part, a bracket ahead of it included.
func TestCheckMixed(t *testing.T) {
	for typed, place := range map[string]int{
		"11":                         1,
		"1(1)":                       1,
		"1((1))":                     1,
		"(1)1":                       3,
		"(1)(1)":                     3,
		"AT":                         1,
		"A1T":                        2,
		"A1(T)":                      2,
		"A12T":                       3,
		"A(1T)":                      3,
		"A((1T))":                    4,
		"E(E11)":                     1,
		"N{I}1":                      4,
		"P{I,B}11":                   7,
		"C{I}T":                      4,
		"(\\x:a.x)1":                 8,
		"(\\x:a.x)(Y{b}(\\x:b.x))":   8,
		"(\\x:I.x1)":                 7,
		"\\x:I.xx":                   6,
		"\\x:I*B.x1":                 8,
		"\\x:[I].x1":                 8,
		"\\x:a.x1":                   6,
		"\\x:a>b.x1":                 8,
		"(\\x:I*I*I.1)(P{I,I*I}1)":   12,
		"(\\x:I>B>I.1)(\\y:I>B.1)":   12,
		"(\\x:[I].1)N{B}":            10,
		"(\\x:[I].1)N{[I]}":          10,
		"(\\x:I*B.1)(\\y:I.T)":       10,
		"(\\x:I>B.1)(P{I,B}1T)":      10,
		"@f<a>=\\x:a.x;f{I}T":        17,
		"@f<a>=\\x:a.x;f{I}f{I}1":    17,
		"@f<>=1T;x":                  6,
		"@f<>=1;f1":                  8,
		"D{I,I}A(T)":                 7,
		"Y{I}(\\x:I.T)":              4,
		"Y{a}(\\x:a1.x)":             4,
		"J{I}1TT":                    4,
		"J{I}T(1)(F)":                8,
		"A(@x<>=1;xx)1":              10,
		"(\\x:I.x)(\\x:I.x)":         8,
		"(\\x:I.x)(((\\x:I.x)))(1T)": 8,
	} {
		wantCheck(t, typed, "", shape.ErrMixed, place)
	}
}

// P4: of several things that are wrong the one that is first met: from the left, a whole
// behind its parts.
func TestCheckFirstMet(t *testing.T) {
	for _, c := range []struct {
		typed string
		errno shape.Errno
		place int
	}{
		{"xN", shape.ErrFree, 0},
		{"Nx", shape.ErrCount, 0},
		{"1x", shape.ErrFree, 1},
		{"1N", shape.ErrCount, 1},
		{"11x", shape.ErrMixed, 1},
		{"x(11)", shape.ErrFree, 0},
		{"1(11)", shape.ErrMixed, 3},
		{"(11)x", shape.ErrMixed, 2},
		{"1(1x)", shape.ErrFree, 3},
		{"1(@f<aa>=1;1)", shape.ErrFixed, 6},
		{"11(@f<aa>=1;1)", shape.ErrMixed, 1},
		{"@f<aa>=x;y", shape.ErrFixed, 4},
		{"@f<a>=x;y", shape.ErrFree, 6},
		{"@f<a>=11;y", shape.ErrMixed, 7},
		{"@f<a>=N;@g<bb>=1;1", shape.ErrCount, 6},
		{"@f<a>=1;@g<bb>=1;x", shape.ErrFixed, 12},
		{"@f<a>=@g<bb>=1;1;f", shape.ErrFixed, 10},
		{"\\x:a.@f<a>=x{I};1", shape.ErrFixed, 8},
		{"\\x:I.\\y:I.z{I}", shape.ErrFree, 10},
		{"A(\\x:I.y)N", shape.ErrFree, 7},
		{"A(\\x:I.1)N", shape.ErrMixed, 1},
		{"A1(\\x:I.1)(N)", shape.ErrMixed, 2},
		{"x ", shape.ErrText, 1},
		{"11(", shape.ErrText, 3},
		{"@f<aa>=1;", shape.ErrText, 9},
	} {
		wantCheck(t, c.typed, "", c.errno, c.place)
	}
}
