// Package fault: what can be wrong with a text, told by errors that wrap one another.
package fault

import (
	"errors"
	"strconv"
)

// What is wrong, whatever the place: asked for by errors.Is.
var (
	Long  = errors.New("the text is too long")
	Text  = errors.New("there is no such text")
	Free  = errors.New("nothing says what the name stands for")
	Count = errors.New("there are more or fewer types than variables")
	Mixed = errors.New("the one can't be called with the other")
	Fixed = errors.New("the variable may not be taken for anything")
	Type  = errors.New("there is no type")
	Big   = errors.New("the type is too big")
)

// At wraps what is wrong with the place it is wrong at: asked for by errors.As.
type At struct {
	Place int
	Err   error
}

func (a *At) Error() string {
	return a.Err.Error() + ": at byte " + strconv.Itoa(a.Place)
}

func (a *At) Unwrap() error {
	return a.Err
}
