package lang

import (
	"errors"
	"strconv"
	"strings"
	"testing"
)

func TestFaultsWrapTheirReason(t *testing.T) {
	for _, c := range []struct {
		text   string
		reason error
		place  int
	}{
		{"fail", ErrText, 4},
		{"let x=(((((1)))));", ErrNest, 10},
		{"repeat 10{}", ErrCount, 7},
		{"let x=y;", ErrName, 6},
		{"if 1{}", ErrType, 3},
	} {
		tree, err := Read(c.text)
		var fault *Fault
		if tree != nil || !errors.Is(err, c.reason) || !errors.As(err, &fault) || fault.Place != c.place {
			t.Errorf("Read(%q) = %v, %v, want %v at %d", c.text, tree, err, c.reason, c.place)
		}
	}
	if tree, err := Read(strings.Repeat(" ", 301)); tree != nil || err != ErrLong {
		t.Errorf("a long text: %v, %v", tree, err)
	}
}

func TestSigns(t *testing.T) {
	for _, c := range []struct {
		text string
		want sign
		ok   bool
	}{
		{" \n", sign{signEnd, "", 2}, true},
		{" lets", sign{signWord, "lets", 1}, true},
		{"let s", sign{signFixed, "let", 0}, true},
		{"12ab", sign{signNumber, "12", 0}, true},
		{"ab12", sign{signWord, "ab", 0}, true},
		{"==", sign{signFixed, "=", 0}, true},
		{"?", sign{signFixed, "?", 0}, false},
		{"12345", sign{signNumber, "12345", 0}, false},
		{"abcdefghi", sign{signWord, "abcdefghi", 0}, false},
	} {
		if got, ok := signFrom(c.text, 0); got != c.want || ok != c.ok {
			t.Errorf("signFrom(%q) = %v, %v, want %v, %v", c.text, got, ok, c.want, c.ok)
		}
	}
}

func TestEveryNumberIsRead(t *testing.T) {
	for n := range 10000 {
		digits := strconv.Itoa(n)
		for ; len(digits) <= maxDigits; digits = "0" + digits {
			tree, err := Read("let x=" + digits + ";")
			if err != nil {
				t.Fatal(err)
			}
			if got := tree[0].(*Let).Value.(*Number); got.Value != n || got.Place != 6 {
				t.Errorf("%s was read as %v", digits, got)
			}
		}
	}
}

func TestWhatIsThrownIsCaught(t *testing.T) {
	tree, err := parse("let x=1")
	var fault *Fault
	if tree != nil || !errors.As(err, &fault) || fault.Place != 7 || !errors.Is(err, ErrText) {
		t.Errorf("parse = %v, %v", tree, err)
	}
}
