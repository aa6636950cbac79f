package shape_test

import (
	"strings"
	"testing"

	"shape/shape"
)

func wantInstance(t *testing.T, general, special string, is bool, errno shape.Errno, place int) {
	t.Helper()
	i, e, p := shape.Instance(general, special)
	if i != is || e != errno || p != place {
		t.Errorf("Instance(%.80q, %.80q) = %v %d %d, want %v %d %d", general, special, i, e, p, is, errno, place)
	}
}

// P7: instances and none.
func TestInstance(t *testing.T) {
	for _, c := range []struct {
		general, special string
		is               bool
	}{
		{"I", "I", true},
		{"I", "B", false},
		{"B", "I", false},
		{"B", "B", true},
		{"I", "[I]", false},
		{"[I]", "I", false},
		{"a", "a", true},
		{"a", "b9", true},
		{"a", "[I]*B>c", true},
		{"a", "a>a", true},
		{"[a]", "[[a]]", true},
		{"[a]", "a", false},
		{"[a]", "I*I", false},
		{"a*b", "a>b", false},
		{"a>b", "a*b", false},
		// names of variables on one side say nothing of the other one
		{"a>b", "b>a", true},
		{"a>b>c", "c>a>b", true},
		{"a>b>a", "b>a>b", true},
		{"a>b>a", "b>a>a", false},
		{"a>a", "b>a", false},
		{"a>[a]", "[a]>[[a]]", true},
		{"a>[a]", "[a]>[a]", false},
		// the same variable twice
		{"a*a", "I*I", true},
		{"a*a", "I*B", false},
		{"a*a", "(I>c)*(I>c)", true},
		{"a*a", "(I>c)*(I>d)", false},
		{"a*a", "(c>I)*(d>I)", false},
		{"a*a", "(c*I)*(c*I)", true},
		{"a*a", "(c*I)*(d*I)", false},
		{"a*a", "[c]*[d]", false},
		{"a*a", "[I*I]*[I*I]", true},
		{"a*a", "[I*I]*[I*B]", false},
		{"a>b>a*b", "I>B>I*B", true},
		{"a>b>a*b", "I>B>B*I", false},
		{"a>a", "c>c1", false},
		{"a>a", "c1>c1", true},
		{"a>a", "c1>c2", false},
		// variables with a digit
		{"a1>a2", "I>B", true},
		{"a1>a1", "I>B", false},
		{"a>a1>a", "I>B>I", true},
		{"a>a1>a", "I>B>B", false},
		{"z9", "I", true},
		// needless brackets, and needed ones
		{"((a))", "(((I)))", true},
		{"(a>(b>c))", "I>B>I", true},
		{"a>b>c", "(I>(B>I))", true},
		{"((a*b)*c)", "I*B*I", true},
		{"a*b*c", "I*(B*I)", false},
		{"a*b*c", "(I*B)*I", true},
		{"a*b", "I*B*I", true},
		{"a>b", "I>B>I", true},
		{"a>I", "I>B>I", false},
		{"a>I", "(I>B)>I", true},
		{"(a>b)>c", "(I>B)>I", true},
		{"[(a)]", "[I]", true},
		{"a*a", "(I)*((I))", true},
		{"a*a", "(I>B>I)*(I>(B>I))", true},
		{"a*a", "(I>B>I)*((I>B)>I)", false},
		{"(a*b)>c", "I*B>I", true},
		{"a*(b>c)", "I*B>I", false},
	} {
		wantInstance(t, c.general, c.special, c.is, shape.OK, 0)
	}
}

// P7: the place in the first one, else in the second one.
func TestInstanceRefuses(t *testing.T) {
	for _, c := range []struct {
		general, special string
		place            int
	}{
		{"", "I", 0},
		{"I", "", 0},
		{"I>", "", 2},
		{"I>I>", "I>", 4},
		{"I>I", "I>", 2},
		{"I>I", "[I", 2},
		{"I I", "I>>I", 1},
		{"I", "I>>I", 2},
		{"a0", "I", 1},
		{"a1", "a0", 1},
		{"a12", "I", 2},
		{"ab", "I", 1},
		{"I1", "I", 1},
		{"[]", "I", 1},
		{"[I)", "I", 2},
		{"I", "(I]", 2},
		{"I]", "I", 1},
		{"I", "I)", 1},
		{"I*", "I", 2},
		{"I**I", "I", 2},
		{">I", "I", 0},
		{"T", "I", 0},
		{"I", "\x00", 0},
		{"I", "I\x00", 1},
		{"\xff", "I", 0},
		{"I>é", "I", 2},
		{"I.", "I", 1},
	} {
		wantInstance(t, c.general, c.special, false, shape.ErrText, c.place)
	}
}

// P7 and P1: ErrLong if one of the two has more than 4000 bytes, whatever else is wrong.
func TestInstanceLimit(t *testing.T) {
	above := strings.Repeat("I>", 2000) + "I"
	at := strings.Repeat("I>", 1999) + "a1"
	below := strings.Repeat("I>", 1998) + "(I)"
	wantInstance(t, above, "I", false, shape.ErrLong, 0)
	wantInstance(t, "I", above, false, shape.ErrLong, 0)
	wantInstance(t, above, above, false, shape.ErrLong, 0)
	wantInstance(t, above, "", false, shape.ErrLong, 0)
	wantInstance(t, "?", above, false, shape.ErrLong, 0)
	wantInstance(t, "?", strings.Repeat("\xff", 4001), false, shape.ErrLong, 0)
	wantInstance(t, at+"*", "I", false, shape.ErrLong, 0)
	wantInstance(t, at, at, true, shape.OK, 0)
	wantInstance(t, "a>b", at, true, shape.OK, 0)
	wantInstance(t, "a>I", at, false, shape.OK, 0)
	wantInstance(t, below+"]", "I", false, shape.ErrText, 3999)
	wantInstance(t, "I", below+">", false, shape.ErrText, 4000)
}

// P7 and P1: deep brackets, whole and broken off.
func TestInstanceDeep(t *testing.T) {
	for _, pair := range []string{"()", "[]"} {
		open, shut := pair[:1], pair[1:]
		deep := func(inner string) string {
			return strings.Repeat(open, 1999) + inner + strings.Repeat(shut, 1999)
		}
		wantInstance(t, deep("a"), deep("I"), true, shape.OK, 0)
		wantInstance(t, deep("I"), deep("B"), false, shape.OK, 0)
		wantInstance(t, strings.Repeat(open, 4000), "I", false, shape.ErrText, 4000)
		wantInstance(t, "I", strings.Repeat(open, 4000), false, shape.ErrText, 4000)
		wantInstance(t, strings.Repeat(shut, 4000), "I", false, shape.ErrText, 0)
		wantInstance(t, deep("a")+shut, "I", false, shape.ErrText, 3999)
	}
	pairs := func(last string) string { return "a" + strings.Repeat("*a", 1998) + "*" + last }
	wantInstance(t, pairs("a"), strings.ReplaceAll(pairs("a"), "a", "I"), true, shape.OK, 0)
	wantInstance(t, pairs("a"), strings.ReplaceAll(pairs("B"), "a", "I"), false, shape.OK, 0)
}

// P7: with every byte behind every short beginning, on both sides.
func TestInstancePlaces(t *testing.T) {
	typeGrammar.beginnings(5, "IBa1[]()*>", func(text string, at rows) {
		if typeGrammar.whole(at) {
			wantInstance(t, "a", text, true, shape.OK, 0)
			wantInstance(t, text, text, true, shape.OK, 0)
		} else {
			wantInstance(t, "a", text, false, shape.ErrText, len(text))
			wantInstance(t, text, "?", false, shape.ErrText, len(text))
		}
		for b := range 256 {
			on := text + string([]byte{byte(b)})
			if typeGrammar.step(at, byte(b)) == nil {
				wantInstance(t, "a", on, false, shape.ErrText, len(text))
				wantInstance(t, on, "I", false, shape.ErrText, len(text))
				wantInstance(t, on+"I)", "?", false, shape.ErrText, len(text))
			}
		}
	})
}

// A written type has brackets around all pairs and functions, so that two of them are the
// same if they are so to the letter; parts are all types that stand in it, itself among them.
type written struct {
	text  string
	parts []string
}

func typesOf(nodes int, leaves string) []written {
	var out []written
	add := func(text string, inner ...string) {
		out = append(out, written{text, append([]string{text}, inner...)})
	}
	if nodes == 1 {
		for i := range len(leaves) {
			add(leaves[i : i+1])
		}
		return out
	}
	for _, of := range typesOf(nodes-1, leaves) {
		add("["+of.text+"]", of.parts...)
	}
	for first := 1; first < nodes-1; first++ {
		for _, one := range typesOf(first, leaves) {
			for _, other := range typesOf(nodes-1-first, leaves) {
				inner := append(append([]string{}, one.parts...), other.parts...)
				add("("+one.text+"*"+other.text+")", inner...)
				add("("+one.text+">"+other.text+")", inner...)
			}
		}
	}
	return out
}

// isInstance tries all parts of special in the place of the variables a and b.
func isInstance(general string, special written) bool {
	for _, a := range special.parts {
		for _, b := range special.parts {
			if strings.NewReplacer("a", a, "b", b).Replace(general) == special.text {
				return true
			}
		}
	}
	return false
}

// P7: small types, all against all.
func TestInstanceOfSmallTypes(t *testing.T) {
	var generals, specials []written
	for nodes := 1; nodes <= 5; nodes++ {
		specials = append(specials, typesOf(nodes, "Ia")...)
		if nodes <= 4 {
			generals = append(generals, typesOf(nodes, "Iab")...)
		}
	}
	for _, g := range generals {
		for _, s := range specials {
			wantInstance(t, g.text, s.text, isInstance(g.text, s), shape.OK, 0)
		}
	}
}
