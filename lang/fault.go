package lang

import (
	"errors"
	"strconv"
)

// What may be wrong with a text, in the order in which the document names it.
var (
	ErrLong  = errors.New("the text is too long")
	ErrText  = errors.New("the text is no errand")
	ErrNest  = errors.New("blocks and brackets stand too deep")
	ErrCount = errors.New("a number that may not stand there")
	ErrName  = errors.New("a word that is given nowhere ahead")
	ErrType  = errors.New("not of the kind that it must be")
)

// Fault is what is wrong, and at which place.
type Fault struct {
	Place int
	Err   error
}

func (f *Fault) Error() string {
	return "at " + strconv.Itoa(f.Place) + ": " + f.Err.Error()
}

// Unwrap lets errors.Is find the reason behind the place.
func (f *Fault) Unwrap() error { return f.Err }
