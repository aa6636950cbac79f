package shape_test

import (
	"strings"
	"testing"

	"shape/shape"
)

func wantInfer(t *testing.T, text, form string, errno shape.Errno, place int) {
	t.Helper()
	f, e, p := shape.Infer(text)
	if f != form || e != errno || p != place {
		t.Errorf("Infer(%.80q) = %.80q %d %d, want %.80q %d %d", text, f, e, p, form, errno, place)
	}
}

// wantFound holds Infer and Show against a type, or against an error that both must tell.
func wantFound(t *testing.T, text, form string, errno shape.Errno, place int) {
	t.Helper()
	wantInfer(t, text, form, errno, place)
	if errno == shape.OK {
		wantShown(t, text, form)
	} else if s, e, p := shape.Show(text); s != "" || e != errno || p != place {
		t.Errorf("Show(%.80q) = %.80q %d %d, want %d %d", text, s, e, p, errno, place)
	}
}

// holdsInfer holds Infer and Show against the second finder, twice, and answers what is wrong.
func holdsInfer(t *testing.T, text string) shape.Errno {
	t.Helper()
	form, what := secondInfer(text)
	for range 2 {
		wantFound(t, text, form, what.errno, what.place)
	}
	return what.errno
}

// P5 and P6: the errors of Print, with their places.
func TestInferRefusesTexts(t *testing.T) {
	for text, place := range map[string]int{
		"":              0,
		" ":             0,
		"\x00":          0,
		"\xff":          0,
		"x ":            1,
		"(1":            2,
		"xx)":           2,
		"11(":           3,
		"\\x.":          3,
		"\\x:I.x":       2,
		"@x<>=1;x":      2,
		"N{I}":          1,
		"@x=x;":         5,
		"@x=1":          4,
		"x(y)z)":        5,
		"\\x.xx;":       5,
		"((((((((((((1": 13,
	} {
		wantFound(t, text, "", shape.ErrText, place)
	}
	for _, unit := range []string{"x", "1", "(", ")", "\\", "\x00", "\xff", "\\x.", "@i=\\x.x;"} {
		long := strings.Repeat(unit, 1000)
		wantFound(t, long[:25], "", shape.ErrLong, 0)
		wantFound(t, long[:1000], "", shape.ErrLong, 0)
		if _, e, _ := shape.Infer(long[:24]); e == shape.ErrLong {
			t.Errorf("Infer of 24 bytes of %q tells ErrLong", unit)
		}
	}
}

// P5: ErrFree, at the first name that is free, even where there would be no type.
func TestInferFree(t *testing.T) {
	for text, place := range map[string]int{
		"x":                  0,
		"((x))":              2,
		"xy":                 0,
		"1y":                 1,
		"11y":                2,
		"JT1Tz":              4,
		"\\x.xy":             4,
		"\\x.xxy":            5,
		"\\x.y":              3,
		"(\\x.x)x":           6,
		"(\\x.xx)(\\y.x)":    11,
		"@x=x;x":             3,
		"@x=x;y":             3,
		"@x=1;yx":            5,
		"@x=1;xy":            6,
		"@x=11;y":            6,
		"@x=y;x":             3,
		"(@x=1;x)x":          8,
		"@y=@x=1;x;x":        10,
		"@x=\\y.x;x":         6,
		"@x=1;@y=\\z.w;w":    11,
		"P(\\x.x)(\\y.x)":    11,
		"\\a.\\b.\\c.d":      9,
		"@f=\\x.x;f(\\y.fx)": 14,
		"\\z.\\y.a":          6,
		"\\a.z":              3,
	} {
		wantFound(t, text, "", shape.ErrFree, place)
	}
	for i := range letters {
		name := letters[i : i+1]
		wantFound(t, name, "", shape.ErrFree, 0)
		wantFound(t, "\\"+name+"."+name, "a>a", shape.OK, 0)
		wantFound(t, "@"+name+"=1;"+name, "I", shape.OK, 0)
		wantFound(t, "@"+name+"="+name+";1", "", shape.ErrFree, 3)
		for j := range letters {
			if i != j {
				wantFound(t, "\\"+letters[j:j+1]+"."+name, "", shape.ErrFree, 3)
			}
		}
	}
}

// P5: ErrType, without a place.
func TestInferNoType(t *testing.T) {
	for _, text := range []string{
		"11", "1(1)", "T1", "(11)1", "A1T", "AT", "A12T", "E(E11)", "NN", "N1",
		// the two ways of J, and lists, of different types
		"JT1T", "J1", "JT(\\x.x)1", "JTN1", "CT(C1N)", "C1N1", "CNCN", "C11",
		// a type that would stand within itself
		"\\x.xx", "\\x.x(xx)", "\\x.\\y.x(yx)(yy)", "YY", "YP", "YC", "DP", "DD", "Y(\\x.Px)", "Y(\\x.C1x1)",
		"\\f.f(\\x.fx)f", "\\x.CxxN", "\\x.Cx(CNN)x", "\\x.Jxx1", "\\x.JT(x1)x", "\\p.JT(Lp)p",
		// within the first part of an @ of which the name isn't used
		"@x=11;1", "@f=\\x.xx;1", "@x=1;@y=xx;1", "\\z.@f=zz;1",
		// a name of a \ is of one type
		"(\\i.P(i1)(iT))", "(\\i.P(i1)(iT))(\\x.x)", "\\x.P(C1x)(CTx)", "\\f.P(f1)(fN)", "(\\i.ii)(\\x.x)",
		// and so is what an @ has from around it
		"\\g.@f=\\x.gx;P(f1)(fT)", "\\g.@f=g;P(f1)(fT)", "\\x.@y=x;P(C1y)(CTy)", "\\x.@y=x;yy",
		"\\x.@y=Pxx;P(A1(Ly))(Ry1)", "\\x.@y=\\z.x;A(y1)(yT)1", "\\x.@f=@g=x;g;ff",
		"@f=\\x.@g=x;gg;1", "\\x.@f=\\y.Jxy;f1T",
		// the nearest one says it
		"@i=\\x.x;\\i.ii", "\\i.@x=1;ii", "@x=1;@x=T;A1x",
		// pairs and functions
		"L1", "L(\\x.x)", "R(C1N)", "P123", "L(P1T)2", "\\p.A(Lp)(RpT)(Rp)1", "@f=PPP;@g=Pff;@h=Pgg;hh",
		"D(\\x.\\y.x)1(CTN)", "DA0(CTN)", "DCN1", "DC1",
	} {
		wantFound(t, text, "", shape.ErrType, 0)
	}
}

// P5: the most general type of expressions without an @.
func TestInferOfFunctions(t *testing.T) {
	for text, form := range map[string]string{
		"0":                        "I",
		"9":                        "I",
		"T":                        "B",
		"F":                        "B",
		"N":                        "[a]",
		"C":                        "a>[a]>[a]",
		"P":                        "a>b>a*b",
		"L":                        "a*b>a",
		"R":                        "a*b>b",
		"J":                        "B>a>a>a",
		"E":                        "I>I>B",
		"A":                        "I>I>I",
		"Y":                        "(a>a)>a",
		"D":                        "(a>b>b)>b>[a]>b",
		"(((((((((((1)))))))))))":  "I",
		"((A)(1))":                 "I>I",
		"\\x.((x))":                "a>a",
		"\\x.\\y.x":                "a>b>a",
		"\\x.\\y.y":                "a>b>b",
		"\\x.\\x.x":                "a>b>b",
		"\\f.\\x.f(fx)":            "(a>a)>a>a",
		"\\f.\\g.\\x.f(gx)":        "(a>b)>(c>a)>c>b",
		"\\x.\\y.\\z.xz(yz)":       "(a>b>c)>(a>b)>a>c",
		"\\p.P(Rp)(Lp)":            "a*b>b*a",
		"\\f.\\x.\\y.f(Pxy)":       "(a*b>c)>a>b>c",
		"\\f.\\p.f(Lp)(Rp)":        "(a>b>c)>a*b>c",
		"\\x.CxN":                  "a>[a]",
		"\\x.Cx(C1N)":              "I>[I]",
		"JT":                       "a>a>a",
		"JTN":                      "[a]>[a]",
		"JTNN":                     "[a]",
		"JTN(C1N)":                 "[I]",
		"JT(\\x.\\y.x)":            "(a>b>a)>a>b>a",
		"JT(\\x.\\y.x)(\\x.\\y.y)": "a>a>a",
		"\\x.\\y.JTxy":             "a>a>a",
		"Y(\\x.x)":                 "a",
		"Y(\\x.1)":                 "I",
		"Y(\\f.\\x.J(Ex0)1(fx))":   "I>I",
		"\\x.Y(\\y.x)":             "a>a",
		"DC":                       "[a]>[a]>[a]",
		"DCN":                      "[a]>[a]",
		"DA0":                      "[I]>I",
		"D(\\x.\\y.y)":             "a>[b]>a",
		"D(\\x.\\a.A1a)0(CTN)":     "I",
		"(\\x.1)N":                 "I",
		"(\\x.\\y.y)N":             "a>a",
		"\\x.(\\y.1)(x1)":          "(I>a)>I",
		"PN":                       "a>[b]*a",
		"PNN":                      "[a]*[b]",
		"PPP":                      "(a>b>a*b)*(c>d>c*d)",
		"\\x.PxN":                  "a>a*[b]",
	} {
		wantFound(t, text, form, shape.OK, 0)
	}
}

// P5: what an @ says may be taken at several types, but for what is around it.
func TestInferOfNames(t *testing.T) {
	for text, form := range map[string]string{
		"@x=1;x":                   "I",
		"@x=N;1":                   "I",
		"@x=N;x":                   "[a]",
		"@x=N;P(C1x)(CTx)":         "[I]*[B]",
		"@i=\\x.x;P(i1)(iT)":       "I*B",
		"@i=\\x.x;ii":              "a>a",
		"@i=\\x.x;iii1":            "I",
		"@i=(\\x.x);((ii)(i))1":    "I",
		"@k=\\x.\\y.x;k1":          "a>I",
		"@k=\\x.\\y.x;kk":          "a>b>c>b",
		"@d=\\x.Pxx;d(d1)":         "I*I*(I*I)",
		"@x=1;@x=T;CxN":            "[B]",
		"@x=1;@x=Pxx;@x=Pxx;x":     "I*I*(I*I)",
		"@x=\\x.x;xx":              "a>a",
		"@x=\\y.y;@x=xx;xx":        "a>a",
		"@x=@y=\\z.z;yy;P(x1)(xT)": "I*B",
		"@x=@y=N;P(C1y)y;P(Rx)x":   "[a]*([I]*[b])",
		"(@x=N;x)":                 "[a]",
		"C(@x=1;x)(@x=N;x)":        "[I]",
		"@f=L;P(f(P1T))(f(PTT))":   "I*B",
		"@j=JT;P(j12)(jTF)":        "I*B",
		"@f=\\x.CxN;P(f1)(fT)":     "[I]*[B]",
		"@f=\\x.Y(\\y.x);f":        "a>a",
		// of what is around
		"\\x.@y=x;y":                "a>a",
		"\\x.@y=x;Pyy":              "a>a*a",
		"\\x.@y=x;A1y":              "I>I",
		"\\x.@y=\\z.x;P(y1)(yT)":    "a>a*a",
		"\\x.@y=\\z.x;yy":           "a>a",
		"\\x.@y=\\z.Pxz;P(y1)(yT)":  "a>a*I*(a*B)",
		"\\x.@y=P;P(yx1)(yTx)":      "a>a*I*(B*a)",
		"\\g.@f=\\x.gx;P(f1)(f2)":   "(I>a)>a*a",
		"\\g.@f=\\x.gx;f":           "(a>b)>a>b",
		"\\x.@y=Cx;y(yN)":           "a>[a]",
		"\\x.@y=Cx;y(C1N)":          "I>[I]",
		"\\x.@f=\\y.JTxy;f":         "a>a>a",
		"\\x.@f=\\y.JTxy;f1":        "I>I",
		"\\x.@f=@g=x;\\y.g;P(f1)f":  "a>a*(b>a)",
		"\\x.@f=@g=\\y.x;g;f":       "a>b>a",
		"@f=\\x.@g=\\y.x;g;P(f1T)f": "I*(a>b>a)",
		"@f=\\x.@g=x;g;P(f1)(fT)":   "I*B",
		"\\x.@f=\\x.x;P(f1)(fx)":    "a>I*a",
		"\\x.\\x.@f=x;f":            "a>b>b",
		"\\x.@x=N;P(C1x)(CTx)":      "a>[I]*[B]",
		"\\x.(\\y.@f=y;f)x":         "a>a",
		"(\\x.@y=x;y)1":             "I",
		"\\x.(@y=x;y)1":             "(I>a)>a",
		"\\x.@y=x1;P(yT)y":          "(I>B>a)>a*(B>a)",
	} {
		wantFound(t, text, form, shape.OK, 0)
	}
}
