// Package fault: what can be wrong with a text, told by errors that wrap one another.
package fault

import (
	"errors"
	"strconv"
)

// What is wrong, whatever the place: asked for by errors.Is.
var (
	Long = errors.New("the text is too long")
	Text = errors.New("there is no such text")
)

// At wraps what is wrong with the place it is wrong at: asked for by errors.As.
type At struct {
	Place int
	Err   error
}

func (a *At) Error() string {
	return a.Err.Error() + ": at byte " + strconv.Itoa(a.Place)
}

func (a *At) Unwrap() error {
	return a.Err
}
