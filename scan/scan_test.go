package scan

import (
	"errors"
	"testing"

	"shape/fault"
)

func placeOf(err error) int {
	var at *fault.At
	if errors.Is(err, fault.Text) && errors.As(err, &at) {
		return at.Place
	}
	return -1
}

func TestReaderGoesThrough(t *testing.T) {
	r := New("x.")
	if letter, err := r.Letter(); letter != 'x' || err != nil {
		t.Errorf("Letter = %q %v, want x", letter, err)
	}
	if got := placeOf(r.End()); got != 1 {
		t.Errorf("End ahead of a byte: place %d, want 1", got)
	}
	if got := placeOf(r.Want('=')); got != 1 {
		t.Errorf("Want of another byte: place %d, want 1", got)
	}
	if r.Take('=') || !r.Take('.') {
		t.Error("Take of =, then of the full stop: want false, then true")
	}
	if err := r.End(); err != nil {
		t.Errorf("End at the end: %v", err)
	}
}

func TestReaderAtTheEnd(t *testing.T) {
	r := New("")
	r.Skip()
	if r.Peek() != 0 || r.Take(0) {
		t.Error("at the end stands a byte")
	}
	if _, err := r.Letter(); placeOf(err) != 0 {
		t.Errorf("Letter at the end: %v, want place 0", err)
	}
	if got := placeOf(r.Want('x')); got != 0 {
		t.Errorf("Want at the end: place %d, want 0", got)
	}
}

func TestZeroByteIsNoEnd(t *testing.T) {
	if got := placeOf(New("\x00").End()); got != 0 {
		t.Errorf("End ahead of a zero byte: place %d, want 0", got)
	}
}

func TestIsLetter(t *testing.T) {
	for b := range 256 {
		want := false
		for _, c := range []byte("abcdefghijklmnopqrstuvwxyz") {
			want = want || int(c) == b
		}
		if IsLetter(byte(b)) != want {
			t.Errorf("IsLetter(%q) = %v", byte(b), !want)
		}
	}
}
