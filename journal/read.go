package journal

import (
	"errors"
	"strconv"
	"strings"
)

// heading is the first line of the journal of a text. In quotes the text's own newlines end no line.
func heading(text string) string { return strconv.Quote(text) + "\n" }

// cutLine cuts the first line off; ErrTorn: it does not end.
func cutLine(lines string) (line, rest string, err error) {
	line, rest, ended := strings.Cut(lines, "\n")
	if !ended {
		return "", "", &Fault{"a line", ErrTorn}
	}
	return line, rest, nil
}

// read answers the answers that stand behind a text's heading. ErrTorn: not even the heading stands.
func read(stands, text string) ([]int, error) {
	_, lines, err := cutLine(stands)
	if err != nil {
		return nil, &Fault{"the heading", err}
	}
	if !strings.HasPrefix(stands, heading(text)) {
		return nil, &Fault{"the heading", ErrOther}
	}
	return readAnswers(lines)
}

// readAnswers reads lines up to the last one, which waits for its answer, or was torn in the midst of it.
func readAnswers(lines string) ([]int, error) {
	var answers []int
	for {
		line, rest, err := cutLine(lines)
		if errors.Is(err, ErrTorn) {
			return answers, nil
		}
		sign := strings.LastIndex(line, answered)
		answer, err := strconv.Atoi(line[sign+1:])
		if sign < 0 || err != nil {
			return nil, &Fault{"an answer", ErrOther}
		}
		answers = append(answers, answer)
		lines = rest
	}
}

// leftOf answers what is still to be written of an answer, if its beginning stands at the end: so a loss of power takes up no room.
func leftOf(answer, stands string) string {
	last := max(0, strings.LastIndexAny(stands, asked+answered+"\n"))
	return strings.TrimPrefix(answer, stands[last:])
}
