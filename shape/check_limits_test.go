package shape_test

import (
	"strings"
	"testing"

	"shape/shape"
)

// sized writes a type of that many nodes, and not many more bytes.
func sized(nodes int) string {
	if nodes%2 == 0 {
		return "[" + sized(nodes-1) + "]"
	}
	return "I" + strings.Repeat("*I", nodes/2)
}

// filled repeats the unit so often that the whole has at most 60000 bytes.
func filled(head, unit, shut, tail string) string {
	times := (60000 - len(head) - len(tail)) / (len(unit) + len(shut))
	return head + strings.Repeat(unit, times) + tail + strings.Repeat(shut, times)
}

// P4 and P1: ErrLong above 60000 bytes, whatever they are, and no place.
func TestCheckLong(t *testing.T) {
	for _, unit := range []string{"1", "(", ")", " ", "\\x:I.", "@x<>=", "N{I}", "@f<a>=N{a};", "\\x:[", "\x00", "\xff"} {
		long := strings.Repeat(unit, 60001)
		wantCheck(t, long[:60001], "", shape.ErrLong, 0)
		wantCheck(t, long, "", shape.ErrLong, 0)
		if _, e, _ := shape.Check(long[:60000]); e == shape.ErrLong || e == shape.OK {
			t.Errorf("60000 bytes of %q: %d", unit, e)
		}
	}
	wantCheck(t, strings.Repeat("(", 29999)+"A1"+strings.Repeat(")", 29999), "I>I", shape.OK, 0)
	wantCheck(t, strings.Repeat("(", 30000)+"1"+strings.Repeat(")", 30000), "", shape.ErrLong, 0)
}

// P4: ErrBig: more than 50000 nodes; the place of the part, behind its brackets.
func TestCheckBig(t *testing.T) {
	at, above := sized(50000), sized(50001)
	for _, c := range []struct {
		typed string
		form  string
		errno shape.Errno
		place int
	}{
		// a function: its type has two more nodes than its name's
		{"\\x:" + sized(49998) + ".1", sized(49998) + ">I", shape.OK, 0},
		{"\\x:" + sized(49999) + ".1", "", shape.ErrBig, 0},
		{"((\\x:" + sized(49999) + ".1))", "", shape.ErrBig, 2},
		{"(\\x:" + sized(49998) + ".1)", sized(49998) + ">I", shape.OK, 0},
		{"\\y:I.\\x:" + sized(49996) + ".1", "I>" + sized(49996) + ">I", shape.OK, 0},
		{"\\y:I.\\x:" + sized(49997) + ".1", "", shape.ErrBig, 0},
		{"\\y:I.\\x:" + sized(49999) + ".1", "", shape.ErrBig, 5},
		{"\\x:" + sized(20000) + ".x", sized(20000) + ">" + sized(20000), shape.OK, 0},
		{"\\x:" + sized(25000) + ".x", "", shape.ErrBig, 0},
		// a name
		{"\\x:" + at + ".x", "", shape.ErrBig, 0},
		{"\\x:" + above + ".x", "", shape.ErrBig, 4 + len(above)},
		{"\\x:" + above + ".((x))", "", shape.ErrBig, 6 + len(above)},
		{"\\x:" + above + ".1x", "", shape.ErrBig, 5 + len(above)},
		{"\\x:" + above + ".A(x)", "", shape.ErrBig, 6 + len(above)},
		{"\\x:" + above + ".1", "", shape.ErrBig, 0},
		{"\\x:" + at + ".A(x)", "", shape.ErrMixed, 5 + len(at)},
		// a constant, and a name of which the scheme is taken at a type
		{"N{" + sized(49999) + "}", "[" + sized(49999) + "]", shape.OK, 0},
		{"N{" + at + "}", "", shape.ErrBig, 0},
		{"((N{" + at + "}))", "", shape.ErrBig, 2},
		{"1N{" + at + "}", "", shape.ErrBig, 1},
		{"1(N{" + at + "})", "", shape.ErrBig, 2},
		{"@f<a>=N{a};f{" + sized(49999) + "}", "[" + sized(49999) + "]", shape.OK, 0},
		{"@f<a>=N{a};f{" + at + "}", "", shape.ErrBig, 11},
		{"@f<a>=N{a*a*a};f{" + sized(16665) + "}", "[" + sized(16665) + strings.Repeat("*("+sized(16665)+")", 2) + "]", shape.OK, 0},
		{"@f<a>=N{a*a*a};f{" + sized(16667) + "}", "", shape.ErrBig, 15},
		{"@f<a>=N{a*a*a*a};f{" + sized(12499) + "}", "[" + sized(12499) + strings.Repeat("*("+sized(12499)+")", 3) + "]", shape.OK, 0},
		{"@f<a>=N{[a*a*a*a]};f{" + sized(12499) + "}", "", shape.ErrBig, 19},
		// a value, and what is behind an @
		{"@f<>=N{" + at + "};1", "", shape.ErrBig, 5},
		{"@f<>=1;N{" + at + "}", "", shape.ErrBig, 7},
		// what else is wrong
		{"\\x:" + above + ".y", "", shape.ErrFree, 4 + len(above)},
		{"\\x:" + above + ".x{I}", "", shape.ErrCount, 4 + len(above)},
		{"N{I," + at + "}", "", shape.ErrCount, 0},
		{"x{" + at + "}", "", shape.ErrFree, 0},
		{"A(\\x:" + sized(49999) + ".1)", "", shape.ErrBig, 2},
		{"11(\\x:" + sized(49999) + ".1)", "", shape.ErrMixed, 1},
		{"(\\x:" + sized(49999) + ".1)y", "", shape.ErrBig, 1},
		// types that are no part's
		{"@f<a>=1;f{" + above + "}", "I", shape.OK, 0},
		{"@f<ab>=N{b};f{" + above + ",I}", "[I]", shape.OK, 0},
	} {
		wantCheck(t, c.typed, c.form, c.errno, c.place)
	}
}

// P4 and P1: types that double again and again, right up to the limit and beyond it.
func TestCheckDoubling(t *testing.T) {
	for _, value := range []string{"N{a}", "Y{a}", "\\x:a.x", "P{a,[a]}"} {
		for _, double := range []string{"a*a", "a>a", "[a]>a*I", "a*a*(a>a)"} {
			chain := "@f<a>=" + value + ";"
			for range 18 {
				errno := holdsCheck(t, chain+"f{a}")
				if chain += "@f<a>=f{" + double + "};"; errno != shape.OK {
					break
				}
			}
			_, what := secondCheck(chain + "1")
			if what.errno != shape.ErrBig {
				t.Errorf("%s does not grow: %v", chain, what)
			}
			wantCheck(t, filled(chain, "@f<a>=f{"+double+"};", "", "1"), "", shape.ErrBig, what.place)
		}
	}
}

// P1: big types that are used again and again.
func TestCheckBigTypesOften(t *testing.T) {
	same, value := "@k<a>=\\x:a.x;", "@b<a>=Y{a}(\\x:a.x);"
	for range 13 {
		same += "@k<a>=k{a*a};"
		value += "@b<a>=b{a*a};"
	}
	head := same + value + "@h<>=k{I};@g<>=k{B};@g<>=k{I};"
	full := oneForm(doubled("I", 13))
	wantCheck(t, head+"b{I}", full, shape.OK, 0)
	wantCheck(t, filled(head, "@x<>=k{I};", "", "1"), "I", shape.OK, 0)
	wantCheck(t, filled(head, "@x<>=k{I};@x<>=k{B};", "", "1"), "I", shape.OK, 0)
	wantCheck(t, filled(head, "@k<a>=k{a};", "", "k{I}"), full+">"+full, shape.OK, 0)
	wantCheck(t, filled(head, "@k<b>=k{b};@k<a>=k{a};", "", "k{I}"), full+">"+full, shape.OK, 0)
	wantCheck(t, filled(head, "h(g(", "))", "b{I}"), full, shape.OK, 0)
	other := filled(head, "h(g(", "))", "b{B}")
	wantCheck(t, other, "", shape.ErrMixed, strings.Index(other, "(b{B}"))
}

func doubled(plain string, times int) string {
	for range times {
		plain = "(" + plain + "*" + plain + ")"
	}
	return plain
}

// P1 and P4: deep and long texts of all kinds.
func TestCheckDeep(t *testing.T) {
	deepType := strings.Repeat("(", 29990) + "a" + strings.Repeat(")", 29990)
	lists := strings.Repeat("[", 24000) + "I" + strings.Repeat("]", 24000)
	for _, c := range []struct {
		typed string
		form  string
		errno shape.Errno
		place int
	}{
		{strings.Repeat("(", 60000), "", shape.ErrText, 60000},
		{filled("", "(", ")", "x"), "", shape.ErrFree, 29999},
		{filled("", "A1(", ")", "1"), "I", shape.OK, 0},
		{filled("", "A1(", ")", "T"), "", shape.ErrMixed, 44996},
		{filled("", "\\x:I.", "", "1"), "I" + strings.Repeat(">I", 11999), shape.OK, 0},
		{filled("", "(\\x:I.", ")1", "x"), "I", shape.OK, 0},
		{filled("", "@x<a>=", ";1", "1"), "I", shape.OK, 0},
		{filled("@x<>=1;", "@x<>=x;", "", "x"), "I", shape.OK, 0},
		{filled("@f<a>=\\x:a.x;", "@f<a>=f{a};", "", "f{I}1"), "I", shape.OK, 0},
		{filled("@f<a>=\\x:a.x;1", "f{I}(", ")", "1"), "", shape.ErrMixed, 14},
		{filled("", "1", "", "1"), "", shape.ErrMixed, 1},
		{filled("\\f:I>I.f(", "f(", ")", "1)"), "(I>I)>I", shape.OK, 0},
		{"\\x:" + strings.Repeat("[", 59997), "", shape.ErrText, 60000},
		{"\\x:" + deepType + ".x", "a>a", shape.OK, 0},
		{"N{" + deepType + "}", "[a]", shape.OK, 0},
		{"\\x:" + lists + ".x", lists + ">" + lists, shape.OK, 0},
		{"\\x:I" + strings.Repeat(">I", 12000) + ".x", "(I" + strings.Repeat(">I", 12000) + ")" + strings.Repeat(">I", 12001), shape.OK, 0},
		{"@f<" + strings.Repeat("a", 59000) + ">=1;1", "", shape.ErrFixed, 4},
		{"N{" + strings.Repeat("I,", 29000) + "I}", "", shape.ErrCount, 0},
	} {
		wantCheck(t, c.typed, c.form, c.errno, c.place)
	}
}

// P4: all variables there are, named anew in their order.
func TestCheckNamesAllVariables(t *testing.T) {
	var back, forth []string
	for digit := range 10 {
		for i := range letters {
			v := letters[i : i+1]
			if digit > 0 {
				v += string("0123456789"[digit])
			}
			forth = append(forth, v)
			back = append([]string{v}, back...)
		}
	}
	all := strings.Join(back, "")
	wantCheck(t, "@f<"+all+">=\\x:"+strings.Join(back, "*")+".1;f{"+strings.Join(back, ",")+"}", strings.Join(forth, "*")+">I", shape.OK, 0)
	wantCheck(t, "@f<"+all+">=1;f{I}", "", shape.ErrCount, 3+len(all)+4)
	wantCheck(t, "@f<"+all+"a>=1;1", "", shape.ErrFixed, 3+len(all))
	wantCheck(t, "\\x:"+strings.Join(back, "*")+".@f<"+all+">=1;1", "", shape.ErrFixed, 3+len(strings.Join(back, "*"))+4)
}
