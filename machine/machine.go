package machine

import (
	"errors"
	"slices"
)

// End is how an errand ended, by the document's numbers.
type End int

const (
	Waits End = iota // it has not: there is no answer to what is asked
	Done
	Undone
	Stuck
	Spent // it made too many steps
)

const (
	maxUndo = 3
	maxWork = 4000000
)

// Why a step is not made to its end.
var (
	errFails = errors.New("something fails")
	errWaits = errors.New("there is no answer")
	errAgain = errors.New("the answer was no, and it is asked again")
	errStuck = errors.New("what was done can't be undone")
)

// Machine carries out a program. What is asked it takes to its journal.
type Machine struct {
	stack
	piles
	Journal
	program   *Program
	table     [kindCount]meaning
	variables []int64
	place     int  // of the next instruction
	tried     int  // how many no's the ask at hand was answered by
	undoing   bool // the pile at hand
	end       End  // Waits, as long as it has not ended
}

// New makes a machine that stands ahead of a program.
func New(p *Program, j Journal) *Machine {
	return &Machine{Journal: j, program: p, table: meanings(), variables: make([]int64, p.variables)}
}

// Run carries out a program with answers, and tells what was asked and how it ended. Of one that is Spent the document tells the end alone, and so does Run.
func Run(p *Program, answers []int) ([]Ask, End) {
	l := &list{answers: answers}
	end := New(p, l).Go()
	if end == Spent {
		return nil, end
	}
	return l.asks, end
}

// Go goes on till the errand has ended or the journal has no answer. Once it has one, Go goes on from there.
func (m *Machine) Go() End { return m.run(maxWork) }

// End tells how it has ended: Waits, if it has not.
func (m *Machine) End() End { return m.end }

// Value tells what a variable holds; false: there is none of that name.
func (m *Machine) Value(name string) (int, bool) {
	i := slices.Index(m.program.names, name)
	if i < 0 {
		return 0, false
	}
	return int(m.variables[i]), true
}

// run makes steps till there is nothing to be done or no answer, at most so many.
func (m *Machine) run(most int) End {
	for range most {
		err := m.step()
		if err != nil && !m.goesOn(err) || m.end != Waits {
			return m.end
		}
	}
	return Spent
}

// goesOn tells whether another step follows one that was not made to its end.
func (m *Machine) goesOn(err error) bool {
	switch {
	case errors.Is(err, errStuck):
		m.end = Stuck
	case errors.Is(err, errFails):
		m.undoing = true
	}
	return !errors.Is(err, errWaits)
}

// step carries out an instruction, or undoes one thing. One that is not made to its end is brought back, so that it can be made again.
func (m *Machine) step() (err error) {
	before := m.place
	defer func() {
		if err != nil {
			m.place = before
		}
	}()
	if m.undoing {
		return m.undoNext()
	}
	if m.place == len(m.program.list) {
		m.end = Done
		return nil
	}
	i := m.program.list[m.place]
	m.place++
	return m.table[i.kind].do(m, i)
}

// ask asks a word once; at the last no of so many it fails.
func (m *Machine) ask(word int, arg int64, most int, undoes bool) (int64, error) {
	answer, ok := m.AnswerTo(Ask{m.program.words[word], int(arg), m.tried + 1, undoes})
	if !ok {
		return 0, errWaits
	}
	m.tried++
	if answer < 0 && m.tried < most {
		return 0, errAgain
	}
	m.tried = 0
	if answer < 0 {
		return 0, errFails
	}
	return int64(answer), nil
}

func (m *Machine) call(word, tries int) error {
	answer, err := m.ask(word, m.top(), tries, false)
	if err == nil {
		m.pop()
		m.push(answer)
	}
	return err
}

// undoNext undoes one thing of the pile at hand, or goes on behind it.
func (m *Machine) undoNext() error {
	u, left := m.next()
	if !left {
		m.goBehind()
		return nil
	}
	_, err := m.ask(u.word, u.number, maxUndo, true)
	if errors.Is(err, errFails) {
		return errStuck
	}
	if err == nil {
		m.takeOff()
	}
	return err
}

// goBehind goes on when a pile is undone: with the second block of its try, or not at all.
func (m *Machine) goBehind() {
	m.undoing = false
	left, ok := m.leave()
	if !ok {
		m.end = Undone
		return
	}
	m.cut(left.height)
	m.place = left.second
}

func (m *Machine) divide() error {
	right := m.top()
	if right == 0 {
		return errFails
	}
	m.pop()
	m.push(m.pop() / right)
	return nil
}

func (m *Machine) unless(place int) {
	if m.pop() == 0 {
		m.place = place
	}
}

func (m *Machine) again(place int) {
	if count := m.pop(); count > 0 {
		m.push(count - 1)
	} else {
		m.place = place
	}
}
