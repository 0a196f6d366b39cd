// Package errand: errands that are undone when they fail, and go on where they were when the power fails: see DOC.md.
package errand

import (
	"errand/files"
	"errand/journal"
	"errand/lang"
	"errand/machine"
)

// Errno is what a call answers: OK or the reason for a refusal.
type Errno int

const (
	OK       Errno = 0
	ErrLong  Errno = 1  // above a bound
	ErrText  Errno = 2  // no errand
	ErrNest  Errno = 3  // too deep
	ErrCount Errno = 4  // a number that may not be
	ErrName  Errno = 5  // a word that is no variable
	ErrType  Errno = 6  // of another kind
	ErrCode  Errno = 7  // no code
	ErrNone  Errno = 8  // nothing was asked
	ErrFull  Errno = 9  // the files are full
	ErrOther Errno = 10 // another errand's journal
)

// How an errand ended.
const (
	Waits  int = 0
	Done   int = 1
	Undone int = 2
	Stuck  int = 3
	Spent  int = 4
)

// Ask is what is asked.
type Ask struct {
	Word     string
	Arg, Try int
	Undo     bool
}

// Errand is an errand and its journal. Make it by Start.
type Errand struct {
	machine *machine.Machine // nil: it was not started
	journal *journal.Journal
	asked   bool // the last call of Next answered an ask, and it was not told yet
}

// Check tells whether a text is an errand (P2).
func Check(text string) (Errno, int) {
	_, err := lang.Read(text)
	return told(err)
}

// Print writes it in few signs (P3).
func Print(text string) (string, Errno, int) {
	tree, err := lang.Read(text)
	if err != nil {
		number, place := told(err)
		return "", number, place
	}
	return lang.Print(tree), OK, 0
}

// Run runs it (P4).
func Run(text string, answers []int) ([]Ask, int, Errno, int) {
	tree, err := lang.Read(text)
	if err != nil {
		number, place := told(err)
		return nil, 0, number, place
	}
	asks, end := machine.Run(machine.Make(tree), answers)
	return asked(asks), int(end), OK, 0
}

// Code makes code of it (P5).
func Code(text string) (string, Errno, int) {
	tree, err := lang.Read(text)
	if err != nil {
		number, place := told(err)
		return "", number, place
	}
	return machine.Write(machine.Make(tree)), OK, 0
}

// Exec runs code (P5).
func Exec(code string, answers []int) ([]Ask, int, Errno) {
	program, err := machine.Read(code)
	if err != nil {
		number, _ := told(err)
		return nil, 0, number
	}
	asks, end := machine.Run(program, answers)
	return asked(asks), int(end), OK
}

// Start starts it over files (P6).
func Start(f *files.Files, text string) (*Errand, Errno, int) {
	tree, err := lang.Read(text)
	if err != nil {
		number, place := told(err)
		return nil, number, place
	}
	j, err := journal.Open(f, text)
	if err != nil {
		number, place := told(err)
		return nil, number, place
	}
	m := machine.New(machine.Make(tree), j)
	m.Go()
	return &Errand{machine: m, journal: j}, OK, 0
}

// Next tells what is asked now (P7).
func (e *Errand) Next() (Ask, bool, int, Errno) {
	if !e.started() {
		return Ask{}, false, 0, ErrNone
	}
	e.asked = false
	if end := e.machine.End(); end != machine.Waits {
		return Ask{}, false, int(end), OK
	}
	ask, again, err := e.journal.Ask()
	if err != nil {
		return Ask{}, false, 0, number(err)
	}
	e.asked = true
	return Ask(ask), again, Waits, OK
}

// Tell tells the answer (P7).
func (e *Errand) Tell(answer int) Errno {
	if !e.started() || !e.asked {
		return ErrNone
	}
	if err := e.journal.Tell(answer); err != nil {
		return number(err)
	}
	e.asked = false
	e.machine.Go()
	return OK
}

// Value tells what a variable holds (P7).
func (e *Errand) Value(word string) (int, Errno) {
	if !e.started() {
		return 0, ErrName
	}
	value, ok := e.machine.Value(word)
	if !ok {
		return 0, ErrName
	}
	return value, OK
}

func (e *Errand) started() bool { return e != nil && e.machine != nil }
