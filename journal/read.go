package journal

import (
	"errors"
	"math"
	"strings"
)

// heading is the first line of the journal of a text. In quotes the text's own newlines end no line. (strconv.Quote writes the same of an errand, but by tables that are too great.)
func heading(text string) string {
	line := []byte{'"'}
	for i := range len(text) {
		switch c := text[i]; c {
		case '\n':
			line = append(line, `\n`...)
		case '\\', '"': // else two texts might have one heading
			line = append(line, '\\', c)
		default:
			line = append(line, c)
		}
	}
	return string(append(line, '"', '\n'))
}

// cutLine cuts the first line off; ErrTorn: it does not end.
func cutLine(lines string) (line, rest string, err error) {
	line, rest, ended := strings.Cut(lines, "\n")
	if !ended {
		return "", "", &Fault{"a line", ErrTorn}
	}
	return line, rest, nil
}

// read answers the answers that stand behind a text's heading. ErrTorn: not even the heading stands.
func read(stands, text string) ([]int, error) {
	_, lines, err := cutLine(stands)
	if err != nil {
		return nil, &Fault{"the heading", err}
	}
	if !strings.HasPrefix(stands, heading(text)) {
		return nil, &Fault{"the heading", ErrOther}
	}
	return readAnswers(lines)
}

// readAnswers reads lines up to the last one, which waits for its answer, or was torn in the midst of it.
func readAnswers(lines string) ([]int, error) {
	var answers []int
	for {
		line, rest, err := cutLine(lines)
		if errors.Is(err, ErrTorn) {
			return answers, nil
		}
		sign := strings.LastIndex(line, answered)
		answer, ok := readNumber(line[sign+1:])
		if sign < 0 || !ok {
			return nil, &Fault{"an answer", ErrOther}
		}
		answers = append(answers, answer)
		lines = rest
	}
}

// readNumber reads what strconv.Atoi reads; false: it is no number, or too great. (Atoi makes an error that would quote it, and so reaches tables that are too great.)
func readNumber(text string) (int, bool) {
	digits, minus := strings.CutPrefix(text, "-")
	if !minus {
		digits = strings.TrimPrefix(text, "+")
	}
	number := 0 // below 0 till the end, since one more number has its place there
	for i := range len(digits) {
		digit := int(digits[i]) - '0'
		if digit < 0 || digit > 9 || number < (math.MinInt+digit)/10 {
			return 0, false
		}
		number = number*10 - digit
	}
	switch {
	case digits == "" || !minus && number == math.MinInt:
		return 0, false
	case minus:
		return number, true
	}
	return -number, true
}

// leftOf answers what is still to be written of an answer, if its beginning stands at the end: so a loss of power takes up no room.
func leftOf(answer, stands string) string {
	last := max(0, strings.LastIndex(stands, asked), strings.LastIndex(stands, answered), strings.LastIndex(stands, "\n"))
	return strings.TrimPrefix(answer, stands[last:])
}
