package machine

import (
	"errors"
	"strconv"
)

// ErrCode is what every flaw of a code wraps.
var ErrCode = errors.New("this is no code")

// Flaw tells why a text is no code, and at which instruction (-1: ahead of the first one).
type Flaw struct {
	At  int
	Why string
}

func (f *Flaw) Error() string {
	return "instruction " + strconv.Itoa(f.At) + ": " + f.Why + ": " + ErrCode.Error()
}

func (f *Flaw) Unwrap() error { return ErrCode }
