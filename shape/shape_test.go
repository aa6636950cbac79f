package shape_test

import (
	"strings"
	"sync"
	"testing"

	"shape/shape"
)

func TestErrnos(t *testing.T) {
	for i, e := range []shape.Errno{shape.OK, shape.ErrLong, shape.ErrText, shape.ErrFree, shape.ErrCount,
		shape.ErrMixed, shape.ErrFixed, shape.ErrType, shape.ErrBig} {
		if int(e) != i {
			t.Errorf("the error of number %d is %d", i, e)
		}
	}
}

// holds holds the answers of all calls, of Instance each way, against P1 and P2.
func holds(t *testing.T, text string) {
	t.Helper()
	form, errno, place := shape.Print(text)
	right := form != "" && errno == shape.OK && place == 0
	if len(text) > 24 {
		right = form == "" && errno == shape.ErrLong && place == 0
	} else if at, wrong := exprGrammar.place(text); wrong {
		right = form == "" && errno == shape.ErrText && place == at
	}
	if again, e, p := shape.Print(text); !right || again != form || e != errno || p != place {
		t.Errorf("Print(%.80q) = %q %d %d, then %q %d %d", text, form, errno, place, again, e, p)
	}
	holdsInfer(t, text)
	holdsCheck(t, text)
	holdsInstance(t, text, "I")
	holdsInstance(t, "I", text)
}

// holdsCheck holds Check against the second checker, twice, and answers what is wrong.
func holdsCheck(t *testing.T, typed string) shape.Errno {
	t.Helper()
	plain, what := secondCheck(typed)
	form := ""
	if what.errno == shape.OK {
		form = oneForm(plain)
	}
	for range 2 {
		wantCheck(t, typed, form, what.errno, what.place)
	}
	return what.errno
}

func holdsInstance(t *testing.T, general, special string) {
	t.Helper()
	is, errno, place := shape.Instance(general, special)
	right := errno == shape.OK && place == 0
	if len(general) > 4000 || len(special) > 4000 {
		right = !is && errno == shape.ErrLong && place == 0
	} else if at, wrong := typeGrammar.place(general); wrong {
		right = !is && errno == shape.ErrText && place == at
	} else if at, wrong := typeGrammar.place(special); wrong {
		right = !is && errno == shape.ErrText && place == at
	}
	if again, e, p := shape.Instance(general, special); !right || again != is || e != errno || p != place {
		t.Errorf("Instance(%.80q, %.80q) = %v %d %d, then %v %d %d", general, special, is, errno, place, again, e, p)
	}
}

// P1: bytes of all kinds, one and two of them.
func TestAnyBytes(t *testing.T) {
	holds(t, "")
	for a := range 256 {
		holds(t, string([]byte{byte(a)}))
		for b := range 256 {
			holds(t, string([]byte{byte(a), byte(b)}))
		}
	}
}

// P1: longer texts of the bytes that the grammars have, and of a few others; always the same ones.
func TestMixedBytes(t *testing.T) {
	const signs = "\\\\@@xxy.=;(())(()1TNIB[]*>>a19 \x00\xff{}<:,"
	seed := uint32(1)
	next := func(below int) int {
		seed = seed*1664525 + 1013904223
		return int(seed>>8) % below
	}
	for range 20000 {
		text := make([]byte, next(30))
		for i := range text {
			text[i] = signs[next(len(signs))]
		}
		holds(t, string(text))
	}
}

// P1: texts at a limit, just above it and far above it.
func TestLongTexts(t *testing.T) {
	for _, unit := range []string{"(", ")", "[", "]", "x", "I", "\\", "@", "\\x.", "@x=", "I*", "I>", "a1", "\x00", "\xff"} {
		for _, length := range []int{23, 24, 25, 100} {
			holds(t, strings.Repeat(unit, length)[:length])
		}
		for _, length := range []int{4001, 100000} {
			text := strings.Repeat(unit, length)[:length]
			wantPrint(t, text, "", shape.ErrLong, 0)
			wantFound(t, text, "", shape.ErrLong, 0)
			wantInstance(t, text, "I", false, shape.ErrLong, 0)
			wantInstance(t, "?", text, false, shape.ErrLong, 0)
		}
	}
}

// P2: no call sees another one, whether ahead of it or beside it.
func TestCallsBesideOneAnother(t *testing.T) {
	var all sync.WaitGroup
	for range 8 {
		all.Go(func() {
			for range 500 {
				wantPrint(t, "(\\x.(x))(1)", "(\\x.x)1", shape.OK, 0)
				wantPrint(t, "(\\x.(x)", "", shape.ErrText, 7)
				wantFound(t, "@f=\\x.Pxx;f(fN)", "[a]*[a]*([a]*[a])", shape.OK, 0)
				wantFound(t, "\\x.@f=x;ff", "", shape.ErrType, 0)
				wantFound(t, "\\x.@f=y;ff", "", shape.ErrFree, 6)
				wantInstance(t, "a>b>a", "I>B>I", true, shape.OK, 0)
				wantInstance(t, "a>b>a", "B>I>I", false, shape.OK, 0)
				wantInstance(t, "a>b>", "B>I>I", false, shape.ErrText, 4)
				wantCheck(t, "@f<a>=\\x:a.x;f{I>I}f{I}", "I>I", shape.OK, 0)
				wantCheck(t, "@f<a>=\\x:a.x;f{I>I}1", "", shape.ErrMixed, 19)
				wantCheck(t, "@f<a>=\\x:a.x;@f<a>=N;1", "", shape.ErrCount, 19)
			}
		})
	}
	all.Wait()
}
