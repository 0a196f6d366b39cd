package journal

import "errors"

// What may be wrong with a journal.
var (
	ErrTorn  = errors.New("it is torn")
	ErrOther = errors.New("it is another one's")
	ErrFull  = errors.New("the files are full")
)

// Fault tells of which part of a journal something is wrong, and what.
type Fault struct {
	Part string
	Err  error
}

func (f *Fault) Error() string { return f.Part + ": " + f.Err.Error() }

// Unwrap lets errors.Is find what is wrong behind the part.
func (f *Fault) Unwrap() error { return f.Err }
