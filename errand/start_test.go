package errand_test

import (
	"fmt"
	"math"
	"math/rand"
	"strings"
	"testing"

	"errand/errand"
	"errand/files"
)

// booking asks in all ways: tries, undos within a try and outside, and what hangs on an answer.
const booking = "let n=1;let ok=true;call a(1)as x undo b tries 2;try{call c(x)undo d;let n=n+x;fail;}else{call e(n);}let ok=x<5;if ok{fail;}call f()undo g;fail;"

// bookingAnswers go through it to its end: Undone.
var bookingAnswers = []int{-7, 5, 88, no, 0, 123456, 9, no, no, 0, 0}

func started(t *testing.T, f *files.Files, text string) *errand.Errand {
	t.Helper()
	e, err, place := errand.Start(f, text)
	if e == nil || err != errand.OK || place != 0 {
		t.Fatalf("Start(%q) = %v, %d, %d", text, e, err, place)
	}
	return e
}

// next tells what Next answers as toldAsks does, with "again" ahead of it beside true.
func next(t *testing.T, e *errand.Errand) string {
	t.Helper()
	a, again, end, err := e.Next()
	if err != errand.OK {
		t.Fatalf("Next: %d", err)
	}
	return nextTold(t, a, again, end)
}

func nextTold(t *testing.T, a errand.Ask, again bool, end int) string {
	t.Helper()
	out := toldAsks([]errand.Ask{a}, end)
	if end != errand.Waits {
		if a != (errand.Ask{}) || again {
			t.Fatalf("Next = %v, %v, %d", a, again, end)
		}
		out = endNames[end]
	}
	if again {
		out = "again " + out
	}
	return out
}

// wantNext is what Next must answer behind answers.
func wantNext(text string, answers []int, again bool) string {
	asks, end := refRun(text, answers)
	switch {
	case end != errand.Waits:
		return endNames[end]
	case again:
		return "again " + toldAsks(asks[len(asks)-1:], end)
	default:
		return toldAsks(asks[len(asks)-1:], end)
	}
}

func testNext(t *testing.T, e *errand.Errand, want string) {
	t.Helper()
	if got := next(t, e); got != want {
		t.Fatalf("Next = %s, want %s", got, want)
	}
}

func testTell(t *testing.T, e *errand.Errand, answer int, want errand.Errno) {
	t.Helper()
	if err := e.Tell(answer); err != want {
		t.Fatalf("Tell(%d) = %d, want %d", answer, err, want)
	}
}

func testValues(t *testing.T, e *errand.Errand, want map[string]int) {
	t.Helper()
	for word, n := range want {
		if got, err := e.Value(word); got != n || err != errand.OK {
			t.Fatalf("Value(%q) = %d, %d, want %d", word, got, err, n)
		}
	}
}

// snapshot tells the names and bytes of all files.
func snapshot(f *files.Files) string {
	out := ""
	for _, name := range f.Names() {
		data, _ := f.Read(name)
		out += fmt.Sprintf("%q: %q\n", name, data)
	}
	return out
}

func TestAnErrandFromItsStartToItsEnd(t *testing.T) {
	f := files.New(0)
	e := started(t, f, "call a(1)as x undo b tries 2;try{call c(x)undo d;fail;}else{call e(x+1);}if x<9{fail;}")
	for _, c := range []struct {
		want   string
		answer int
	}{
		{"a(1)1 Waits", -7}, {"a(1)2 Waits", 5}, {"c(5)1 Waits", 8}, {"-d(8)1 Waits", no}, {"-d(8)2 Waits", 0},
		{"e(6)1 Waits", 3}, {"-b(5)1 Waits", math.MinInt}, {"-b(5)2 Waits", math.MaxInt},
	} {
		testNext(t, e, c.want)
		testTell(t, e, c.answer, errand.OK)
	}
	for range 3 {
		testNext(t, e, "Undone")
		testTell(t, e, 0, errand.ErrNone)
	}
}

func TestEachEnd(t *testing.T) {
	for _, c := range []struct {
		text    string
		answers []int
		want    string
	}{
		{"", nil, "Done"},
		{"let x=1;", nil, "Done"},
		{"fail;", nil, "Undone"},
		{"let x=1/0;call a();", nil, "Undone"},
		{"call a();", nil, "a(0)1 Waits"},
		{"call a();", []int{4}, "Done"},
		{"call a();", []int{no}, "Undone"},
		{"call a()undo b;fail;", []int{1, no, no, no}, "Stuck"},
		{"call a()undo b;fail;", []int{1, no, no}, "-b(1)3 Waits"},
	} {
		f := files.New(0)
		e := started(t, f, c.text)
		for _, a := range c.answers {
			next(t, e)
			testTell(t, e, a, errand.OK)
		}
		before := snapshot(f)
		testNext(t, e, c.want)
		if c.want == "Done" && snapshot(f) != before {
			t.Errorf("%q: Next wrote behind the end", c.text)
		}
	}
}

// Whoever starts it again, and when, the same is asked, and each variable holds the same.
func TestGrownErrandsGoOverFiles(t *testing.T) {
	chance := rand.New(rand.NewSource(5))
	for _, text := range grownErrands(1500) {
		answers := someAnswers(chance)
		asks, _ := refRun(text, answers)
		f := files.New(0)
		e := started(t, f, text)
		for n := range len(asks) + 1 {
			if n > len(answers) {
				break
			}
			if chance.Intn(2) == 0 {
				e = started(t, f, text)
			}
			testValues(t, e, refValues(text, answers[:n]))
			testNext(t, e, wantNext(text, answers[:n], false))
			if chance.Intn(2) == 0 {
				e = started(t, f, text)
				testNext(t, e, wantNext(text, answers[:n], true))
			}
			if n == len(asks) || n == len(answers) {
				break
			}
			testTell(t, e, answers[n], errand.OK)
		}
	}
}

func TestStartedAgainBehindEachAnswer(t *testing.T) {
	f := files.New(0)
	for n, answer := range bookingAnswers {
		e := started(t, f, booking)
		testTell(t, e, answer, errand.ErrNone)
		testNext(t, e, wantNext(booking, bookingAnswers[:n], false))
		e = started(t, f, booking)
		testTell(t, e, answer, errand.ErrNone)
		testNext(t, e, wantNext(booking, bookingAnswers[:n], true))
		testValues(t, e, refValues(booking, bookingAnswers[:n]))
		testTell(t, e, answer, errand.OK)
	}
	for range 2 {
		testNext(t, started(t, f, booking), "Undone")
	}
}

func TestStartOfNoErrand(t *testing.T) {
	f := files.New(0)
	started(t, f, "call a();")
	before := snapshot(f)
	for _, text := range []string{"x", "fail", "let x=x;", "if 1{}", "repeat 10{}", "let x=(((((1)))));", strings.Repeat(" ", 301)} {
		want, at := errand.Check(text)
		for _, f := range []*files.Files{f, files.New(0), files.New(1), nil} {
			if e, err, place := errand.Start(f, text); e != nil || err != want || place != at || err == errand.OK {
				t.Errorf("Start(%q) = %v, %d, %d, want %d at %d", text, e, err, place, want, at)
			}
		}
	}
	if snapshot(f) != before {
		t.Errorf("the files were changed: %s", snapshot(f))
	}
}

func TestStartOfAnotherErrand(t *testing.T) {
	texts := []string{"", " ", "\n", "  ", "call a();", "call a(); ", " call a();", "call  a();", "call a()\n;", "call a() ;", "call a(0);", "call a();call a();", "let n=1;", "let m=1;"}
	for _, first := range texts {
		f := files.New(0)
		e := started(t, f, first)
		for range 2 {
			before := snapshot(f)
			for _, second := range texts {
				if second == first {
					continue
				}
				if e, err, place := errand.Start(f, second); e != nil || err != errand.ErrOther || place != 0 {
					t.Errorf("Start(%q) over the files of %q = %v, %d, %d", second, first, e, err, place)
				}
			}
			if after := snapshot(f); after != before {
				t.Errorf("%q: the files were changed to %s", first, after)
			}
			next(t, e)
			e.Tell(5)
		}
		testNext(t, e, wantNext(first, []int{5, 5}, false))
	}
}

// Of several errors the one that is named first.
func TestAnotherErrandOverFullFiles(t *testing.T) {
	f := files.New(40)
	started(t, f, "call a();")
	fillUp(f)
	if e, err, _ := errand.Start(f, strings.Repeat("call a();", 30)); e != nil || err != errand.ErrOther {
		t.Errorf("Start of another errand: %d", err)
	}
	if e, err, _ := errand.Start(f, "call a()"); e != nil || err != errand.ErrText {
		t.Errorf("Start of none: %d", err)
	}
}

func TestTellBehindNextAlone(t *testing.T) {
	f := files.New(0)
	e := started(t, f, "call a(1)tries 5;")
	testTell(t, e, 1, errand.ErrNone)
	testNext(t, e, "a(1)1 Waits")
	testTell(t, e, no, errand.OK)
	before := snapshot(f)
	testTell(t, e, no, errand.ErrNone)
	testTell(t, e, 5, errand.ErrNone)
	if snapshot(f) != before {
		t.Errorf("the files were changed: %s", snapshot(f))
	}
	testNext(t, e, "a(1)2 Waits")
	testNext(t, e, "again a(1)2 Waits")
	testNext(t, e, "again a(1)2 Waits")
	testTell(t, e, no, errand.OK)
	testTell(t, e, no, errand.ErrNone)
	testNext(t, e, "a(1)3 Waits")
	e = started(t, f, "call a(1)tries 5;")
	testTell(t, e, 5, errand.ErrNone)
	testNext(t, e, "again a(1)3 Waits")
	testTell(t, e, 5, errand.OK)
	testTell(t, e, 5, errand.ErrNone)
	testNext(t, e, "Done")
	testTell(t, e, 5, errand.ErrNone)
}

func TestValues(t *testing.T) {
	f := files.New(0)
	text := "let n=7;let yes=n=7;if false{let never=9;let nay=true;}call a(n)as x;let n=n*x;let yes=not yes;try{call b()as y;}else{let z=n/0;}repeat 0{call c()as unasked;}"
	e := started(t, f, text)
	testValues(t, e, map[string]int{"n": 7, "yes": 1, "never": 0, "nay": 0, "x": 0, "y": 0, "z": 0, "unasked": 0})
	next(t, e)
	testValues(t, e, map[string]int{"n": 7, "yes": 1, "x": 0})
	testTell(t, e, math.MaxInt, errand.OK)
	wraps := math.MaxInt
	wraps *= 7
	testValues(t, e, map[string]int{"n": wraps, "yes": 0, "x": math.MaxInt, "y": 0})
	next(t, e)
	testTell(t, e, no, errand.OK)
	testNext(t, e, "Undone")
	testValues(t, e, map[string]int{"n": wraps, "yes": 0, "x": math.MaxInt, "y": 0, "z": 0})
	testValues(t, started(t, f, text), map[string]int{"n": wraps, "yes": 0, "x": math.MaxInt, "y": 0, "z": 0})
	for _, word := range []string{"", "a", "b", "c", "let", "true", "N", "n ", "nn", "\xff", strings.Repeat("n", 100000)} {
		if n, err := e.Value(word); n != 0 || err != errand.ErrName {
			t.Errorf("Value(%q) = %d, %d", word, n, err)
		}
	}
	none := started(t, files.New(0), "call a();")
	if n, err := none.Value("a"); n != 0 || err != errand.ErrName {
		t.Errorf("Value of a word that is asked = %d, %d", n, err)
	}
}

// What was not made by Start, or over no files, has nothing to tell.
func TestNotStarted(t *testing.T) {
	for _, e := range []*errand.Errand{nil, {}} {
		if a, again, end, err := e.Next(); a != (errand.Ask{}) || again || end != 0 || err == errand.OK {
			t.Errorf("Next = %v, %v, %d, %d", a, again, end, err)
		}
		testTell(t, e, 1, errand.ErrNone)
		if n, err := e.Value("x"); n != 0 || err != errand.ErrName {
			t.Errorf("Value = %d, %d", n, err)
		}
	}
	if e, err, place := errand.Start(nil, "call a();"); e != nil || err != errand.ErrFull || place != 0 {
		t.Errorf("Start over no files = %v, %d, %d", e, err, place)
	}
}

// Two errands over two sets of files know nothing of each other.
func TestTwoSetsOfFiles(t *testing.T) {
	a, b := started(t, files.New(0), "call a()as x;call b(x);"), started(t, files.New(0), "call a()as x;call b(x);")
	testNext(t, a, "a(0)1 Waits")
	testTell(t, b, 1, errand.ErrNone)
	testNext(t, b, "a(0)1 Waits")
	testTell(t, a, 1, errand.OK)
	testTell(t, b, 2, errand.OK)
	testNext(t, a, "b(1)1 Waits")
	testNext(t, b, "b(2)1 Waits")
}
