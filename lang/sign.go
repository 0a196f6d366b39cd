package lang

import "strings"

type signKind int

const (
	signEnd   signKind = iota // behind the last sign
	signFixed                 // a kept word or a mark: its text tells which
	signWord
	signNumber
)

type sign struct {
	kind  signKind
	text  string
	place int
}

const (
	maxWord   = 8
	maxDigits = 4
	marks     = ";=(){}<#+-*/"
)

// signFrom answers the first sign at or behind a place; false: its byte begins none.
func signFrom(text string, place int) (sign, bool) {
	for place < len(text) && isBlank(text[place]) {
		place++
	}
	if place == len(text) {
		return sign{kind: signEnd, place: place}, true
	}
	rest := text[place:]
	switch first := rest[0]; {
	case isLetter(first):
		return wordSign(row(rest, isLetter), place)
	case isDigit(first):
		digits := row(rest, isDigit)
		return sign{signNumber, digits, place}, len(digits) <= maxDigits
	default:
		return sign{signFixed, rest[:1], place}, strings.IndexByte(marks, first) >= 0
	}
}

func wordSign(letters string, place int) (sign, bool) {
	if isKept(letters) {
		return sign{signFixed, letters, place}, true
	}
	return sign{signWord, letters, place}, len(letters) <= maxWord
}

// row answers the bytes at the front that are of one sort, as many as there are.
func row(text string, of func(byte) bool) string {
	n := 0
	for n < len(text) && of(text[n]) {
		n++
	}
	return text[:n]
}

func isKept(letters string) bool {
	switch letters {
	case "let", "call", "as", "undo", "tries", "if", "else", "try", "repeat", "fail", "true", "false", "not":
		return true
	}
	return false
}

func isBlank(c byte) bool  { return c == ' ' || c == '\n' }
func isLetter(c byte) bool { return 'a' <= c && c <= 'z' }
func isDigit(c byte) bool  { return '0' <= c && c <= '9' }
