package fault

import (
	"errors"
	"testing"
)

func TestAtWraps(t *testing.T) {
	err := error(&At{Place: 3, Err: &At{Place: 5, Err: Text}})
	if !errors.Is(err, Text) || errors.Is(err, Long) {
		t.Errorf("%v: want Text and not Long", err)
	}
	var at *At
	if !errors.As(err, &at) || at.Place != 3 {
		t.Errorf("%v: want the outermost place, 3", err)
	}
	if got, want := (&At{Place: 3, Err: Text}).Error(), "there is no such text: at byte 3"; got != want {
		t.Errorf("got %q, want %q", got, want)
	}
}

func TestLongHasNoPlace(t *testing.T) {
	var at *At
	if errors.As(Long, &at) {
		t.Errorf("Long has the place %d, want none", at.Place)
	}
}
