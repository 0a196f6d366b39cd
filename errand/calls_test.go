package errand_test

import (
	"math"
	"math/rand"
	"slices"
	"strings"
	"testing"

	"errand/errand"
	"errand/files"
)

// everyCall asks every call, and tells of each error whether the other results are empty.
func everyCall(t *testing.T, text string, answers []int) {
	t.Helper()
	given := slices.Clone(answers)
	if err, place := errand.Check(text); err == errand.OK && place != 0 {
		t.Errorf("Check(%q): place %d beside OK", text, place)
	}
	if s, err, place := errand.Print(text); err != errand.OK && s != "" || err == errand.OK && place != 0 {
		t.Errorf("Print(%q) = %q, %d, %d", text, s, err, place)
	}
	if asks, end, err, place := errand.Run(text, answers); err != errand.OK && (asks != nil || end != 0) || err == errand.OK && place != 0 {
		t.Errorf("Run(%q) = %v, %d, %d, %d", text, asks, end, err, place)
	}
	if code, err, place := errand.Code(text); err != errand.OK && code != "" || err == errand.OK && place != 0 {
		t.Errorf("Code(%q) = %q, %d, %d", text, code, err, place)
	}
	if asks, end, err := errand.Exec(text, answers); err != errand.OK && (asks != nil || end != 0) {
		t.Errorf("Exec(%q) = %v, %d, %d", text, asks, end, err)
	}
	goOver(t, files.New(0), text, answers)
	if !slices.Equal(answers, given) {
		t.Errorf("%q: the answers were changed", text)
	}
}

// goOver starts an errand over files, tells answers as long as something is asked, and tells of each error whether the other results are empty.
func goOver(t *testing.T, f *files.Files, text string, answers []int) {
	t.Helper()
	e, err, place := errand.Start(f, text)
	if (err == errand.OK) != (e != nil) || (err == errand.OK || err > errand.ErrType) && place != 0 {
		t.Errorf("Start(%q) = %v, %d, %d", text, e, err, place)
	}
	for _, answer := range answers[:min(len(answers), 20)] {
		a, again, end, err := e.Next()
		if (err != errand.OK || end != errand.Waits) && (a != (errand.Ask{}) || again) || err != errand.OK && end != 0 {
			t.Errorf("%q: Next = %v, %v, %d, %d", text, a, again, end, err)
		}
		e.Tell(answer)
		if n, err := e.Value(text); n != 0 || err != errand.ErrName {
			t.Errorf("Value(%q) = %d, %d", text, n, err)
		}
	}
}

func TestEveryCallEnds(t *testing.T) {
	for _, text := range []string{"", "call a();", "let x=1/0;", "\x00", strings.Repeat("repeat 9{", 30), strings.Repeat("x", 100000)} {
		everyCall(t, text, nil)
		everyCall(t, text, []int{0, -1, math.MaxInt, math.MinInt})
		everyCall(t, text, make([]int, 100000))
	}
}

func TestAnyBytes(t *testing.T) {
	chance := rand.New(rand.NewSource(1))
	for range 3000 {
		text := make([]byte, chance.Intn(310))
		chance.Read(text)
		everyCall(t, string(text), []int{1, 2})
		if err, place := errand.Check(string(text)); len(text) <= 300 {
			if want, at := refCheck(string(text)); err != want || place != at {
				t.Errorf("Check(%q) = %d, %d, want %d, %d", text, err, place, want, at)
			}
		}
	}
}

// Signs in any order get further into the grammar than bytes do.
func TestAnySigns(t *testing.T) {
	signs := strings.Fields("let call as undo tries if else try repeat fail true false not ; = ( ) { } < # + - * / a b 0 1 9999")
	chance := rand.New(rand.NewSource(2))
	for range 10000 {
		var text strings.Builder
		for range chance.Intn(8) {
			text.WriteString(signs[chance.Intn(len(signs))] + " ")
		}
		everyCall(t, text.String(), nil)
		err, place := errand.Check(text.String())
		if want, at := refCheck(text.String()); err != want || place != at {
			t.Errorf("Check(%q) = %d, %d, want %d, %d", text.String(), err, place, want, at)
		}
	}
}

func TestNumbersOfNames(t *testing.T) {
	for i, err := range []errand.Errno{errand.OK, errand.ErrLong, errand.ErrText, errand.ErrNest, errand.ErrCount, errand.ErrName, errand.ErrType, errand.ErrCode, errand.ErrNone, errand.ErrFull, errand.ErrOther} {
		if int(err) != i {
			t.Errorf("error %d has the number %d", i, err)
		}
	}
	for i, end := range []int{errand.Waits, errand.Done, errand.Undone, errand.Stuck, errand.Spent} {
		if end != i {
			t.Errorf("end %d has the number %d", i, end)
		}
	}
}
