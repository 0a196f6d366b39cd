// Package journal keeps the answers of an errand in files, so that it goes on behind a loss of power.
//
// A journal is a file of lines. The first one is the errand's text, in quotes; each other one is "?", which stands as soon as something is asked, and then "!" and the answer to it. A loss of power takes bytes from the end, so only the last line can be torn, and it stays as it is: in a line that ends, the answer is what stands behind the last "!".
package journal

import (
	"errors"
	"strconv"
	"strings"

	"errand/files"
	"errand/machine"
)

const (
	name     = "journal" // of the file
	asked    = "?"
	answered = "!"
)

// Journal is the journal of an errand over files.
type Journal struct {
	files   *files.Files
	size    int         // how many bytes it has
	answers []int       // that stand, and that the errand has not come to
	now     machine.Ask // what was asked last
}

// Open opens the journal of a text, or begins it, if none stands. It tells by ErrOther that another text's stands there, by ErrFull that there is no room.
func Open(f *files.Files, text string) (*Journal, error) {
	if f == nil {
		return nil, &Fault{"no files", ErrFull}
	}
	stands, _ := f.Read(name)
	answers, err := read(stands, text)
	if errors.Is(err, ErrTorn) {
		stands = heading(text)
		err = begin(f, stands)
	}
	if err != nil {
		return nil, err
	}
	return &Journal{files: f, size: len(stands), answers: answers}, nil
}

// begin lays the heading of a new journal, in the place of one that was torn. If there is no room for it, what stood there is brought back.
func begin(f *files.Files, first string) (err error) {
	torn, stood := f.Read(name)
	defer func() {
		switch {
		case err != nil && stood:
			write(f, torn)
		case err != nil:
			f.Remove(name)
		}
	}()
	f.Create(name)
	if !write(f, first) {
		return &Fault{"the heading", ErrFull}
	}
	return nil
}

// write lets bytes stand for good behind the others; false: there is no room for them.
func write(f *files.Files, data string) bool {
	return f.Append(name, data) && f.Sync(name)
}

// AnswerTo notes what is asked, and takes the next answer that stands; false: there is none.
func (j *Journal) AnswerTo(a machine.Ask) (int, bool) {
	j.now = a
	if len(j.answers) == 0 {
		return 0, false
	}
	answer := j.answers[0]
	j.answers = j.answers[1:]
	return answer, true
}

// Ask answers what was asked last, once it stands that it was, and whether that stood already.
func (j *Journal) Ask() (machine.Ask, bool, error) {
	stands, err := j.stands()
	if err != nil {
		return machine.Ask{}, false, err
	}
	again := !strings.HasSuffix(stands, "\n")
	if !again && !j.add(asked) {
		return machine.Ask{}, false, &Fault{"that it was asked", ErrFull}
	}
	return j.now, again, nil
}

// Tell lets the answer to what was asked last stand.
func (j *Journal) Tell(answer int) error {
	stands, err := j.stands()
	if err != nil {
		return err
	}
	line := answered + strconv.Itoa(answer) + "\n"
	if !j.add(leftOf(line, stands)) {
		return &Fault{"an answer", ErrFull}
	}
	j.answers = append(j.answers, answer)
	return nil
}

// stands answers the bytes of the journal. ErrOther: they are not as this one left them, since power was lost or another one goes on over the files; so nothing may be written behind them.
func (j *Journal) stands() (string, error) {
	data, _ := j.files.Read(name)
	if len(data) != j.size {
		return "", &Fault{"the journal", ErrOther}
	}
	return data, nil
}

func (j *Journal) add(data string) bool {
	if !write(j.files, data) {
		return false
	}
	j.size += len(data)
	return true
}
