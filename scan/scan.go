// Package scan: a text gone through byte by byte, never back.
//
// Its readers move past a byte only if some whole text goes on with that byte.
// So the place they stand at when they can't go on is the place to tell.
package scan

import "shape/fault"

// Reader stands ahead of the byte that is to be read next.
type Reader struct {
	text  string
	place int
}

// New stands ahead of the first byte of the text.
func New(text string) *Reader {
	return &Reader{text: text}
}

// Place answers how many bytes stand ahead.
func (r *Reader) Place() int {
	return r.place
}

// Peek answers 0 at the end: no grammar here has that byte, so both are refused alike.
func (r *Reader) Peek() byte {
	if r.place == len(r.text) {
		return 0
	}
	return r.text[r.place]
}

// Skip moves past the byte that Peek answered.
func (r *Reader) Skip() {
	if r.place < len(r.text) {
		r.place++
	}
}

// Take moves past the byte that may stand here, and tells whether it did.
func (r *Reader) Take(may byte) bool {
	if r.place == len(r.text) || r.text[r.place] != may {
		return false
	}
	r.place++
	return true
}

// Want moves past the one byte that must stand here.
func (r *Reader) Want(must byte) error {
	if !r.Take(must) {
		return r.Wrong()
	}
	return nil
}

// Letter moves past the letter that must stand here, and answers it.
func (r *Reader) Letter() (byte, error) {
	letter := r.Peek()
	if !IsLetter(letter) {
		return 0, r.Wrong()
	}
	r.Skip()
	return letter, nil
}

// End refuses whatever stands behind a whole text.
func (r *Reader) End() error {
	if r.place < len(r.text) {
		return r.Wrong()
	}
	return nil
}

// Wrong tells that the text can't go on as it does here.
func (r *Reader) Wrong() error {
	return &fault.At{Place: r.place, Err: fault.Text}
}

// IsLetter tells whether names, and variables of types, begin with the byte.
func IsLetter(b byte) bool {
	return 'a' <= b && b <= 'z'
}
