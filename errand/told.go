package errand

import (
	"errors"

	"errand/journal"
	"errand/lang"
	"errand/machine"
)

// told makes of an error from inside the number and the place that a call answers.
func told(err error) (Errno, int) {
	var fault *lang.Fault
	if errors.As(err, &fault) {
		return number(err), fault.Place
	}
	return number(err), 0
}

func number(err error) Errno {
	switch {
	case err == nil:
		return OK
	case errors.Is(err, lang.ErrLong):
		return ErrLong
	case errors.Is(err, lang.ErrNest):
		return ErrNest
	case errors.Is(err, lang.ErrCount):
		return ErrCount
	case errors.Is(err, lang.ErrName):
		return ErrName
	case errors.Is(err, lang.ErrType):
		return ErrType
	case errors.Is(err, machine.ErrCode):
		return ErrCode
	case errors.Is(err, journal.ErrFull):
		return ErrFull
	case errors.Is(err, journal.ErrOther):
		return ErrOther
	default:
		return ErrText
	}
}

// asked makes of what the machine asked what a call answers.
func asked(asks []machine.Ask) []Ask {
	var list []Ask
	for _, a := range asks {
		list = append(list, Ask(a))
	}
	return list
}
