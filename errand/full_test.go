package errand_test

import (
	"strings"
	"testing"

	"errand/errand"
	"errand/files"
)

const filler = "filler"

// fillUp takes up all room that is left.
func fillUp(f *files.Files) {
	f.Create(filler)
	for f.Append(filler, ".") {
	}
	f.Sync(filler)
}

// room lets so many bytes be free of full files.
func room(f *files.Files, bytes int) {
	data, _ := f.Read(filler)
	f.Create(filler)
	f.Append(filler, data[:len(data)-bytes])
	f.Sync(filler)
}

func testFull(t *testing.T, f *files.Files, e *errand.Errand) {
	t.Helper()
	before := snapshot(f)
	for range 2 {
		if a, again, end, err := e.Next(); a != (errand.Ask{}) || again || end != 0 || err != errand.ErrFull {
			t.Fatalf("Next over full files = %v, %v, %d, %d", a, again, end, err)
		}
		testTell(t, e, 0, errand.ErrNone)
	}
	if after := snapshot(f); after != before {
		t.Fatalf("the files were changed from %s to %s", before, after)
	}
}

func testStartFull(t *testing.T, f *files.Files, text string) {
	t.Helper()
	before := snapshot(f)
	for range 2 {
		if e, err, place := errand.Start(f, text); e != nil || err != errand.ErrFull || place != 0 {
			t.Fatalf("Start over full files = %v, %d, %d", e, err, place)
		}
	}
	if after := snapshot(f); after != before {
		t.Fatalf("the files were changed from %s to %s", before, after)
	}
}

// Each call is asked when there is no room, changes nothing, and does what it must when there is.
func TestEachCallOverFullFiles(t *testing.T) {
	f := files.New(5000)
	fillUp(f)
	testStartFull(t, f, booking)
	f.Remove(filler)
	e := started(t, f, booking)
	for n, answer := range bookingAnswers {
		fillUp(f)
		testFull(t, f, e)
		testFull(t, f, started(t, f, booking))
		testValues(t, e, refValues(booking, bookingAnswers[:n]))
		room(f, 1)
		testNext(t, e, wantNext(booking, bookingAnswers[:n], false))
		before := snapshot(f)
		testTell(t, e, answer, errand.ErrFull)
		testTell(t, e, answer+1, errand.ErrFull)
		testNext(t, e, wantNext(booking, bookingAnswers[:n], true))
		testTell(t, e, answer, errand.ErrFull)
		testValues(t, e, refValues(booking, bookingAnswers[:n]))
		if after := snapshot(f); after != before {
			t.Fatalf("the files were changed from %s to %s", before, after)
		}
		f.Remove(filler)
		testTell(t, e, answer, errand.OK)
	}
	fillUp(f)
	testNext(t, e, "Undone")
	testNext(t, started(t, f, booking), "Undone")
}

// With each quota it goes as far as there is room, and what was answered by OK stands.
func TestEachQuota(t *testing.T) {
	ends := 0
	for quota := 1; quota < 400; quota++ {
		f := files.New(quota)
		e, err, _ := errand.Start(f, booking)
		if e == nil {
			if err != errand.ErrFull || len(f.Names()) != 0 {
				t.Fatalf("Start within %d bytes: %d, the files %s", quota, err, snapshot(f))
			}
			continue
		}
		told, asked := goAsFarAsItGoes(t, e)
		f.Power(nil)
		want := wantNext(booking, bookingAnswers[:told], asked)
		a, again, end, err := started(t, f, booking).Next()
		if got := nextTold(t, a, again, end); err == errand.OK && got != want {
			t.Fatalf("within %d bytes: Next = %s, want %s", quota, got, want)
		}
		if err != errand.OK && (err != errand.ErrFull || asked) {
			t.Fatalf("within %d bytes: Next: %d", quota, err)
		}
		if told == len(bookingAnswers) {
			ends++
		}
	}
	if ends == 0 {
		t.Errorf("no quota was enough")
	}
}

// goAsFarAsItGoes answers how many answers were told, and whether the next one was asked for.
func goAsFarAsItGoes(t *testing.T, e *errand.Errand) (told int, asked bool) {
	t.Helper()
	for ; told < len(bookingAnswers); told++ {
		_, _, _, err := e.Next()
		if err == errand.ErrFull {
			return told, false
		}
		if err := e.Tell(bookingAnswers[told]); err == errand.ErrFull {
			return told, true
		}
	}
	return told, false
}

// An answer that takes up less may find room where another one did not.
func TestAShorterAnswer(t *testing.T) {
	f := files.New(1000)
	e := started(t, f, "call a()as x;call b(x);")
	testNext(t, e, "a(0)1 Waits")
	fillUp(f)
	room(f, 5)
	testTell(t, e, 123456, errand.ErrFull)
	testTell(t, e, 7, errand.OK)
	testValues(t, e, map[string]int{"x": 7})
	room(f, 1)
	testNext(t, started(t, f, "call a()as x;call b(x);"), "b(7)1 Waits")
}

// The longest text needs room, and so does the shortest.
func TestRoomForTheHeading(t *testing.T) {
	for _, text := range []string{"", strings.Repeat("\n", 300), strings.Repeat("fail;", 60)} {
		for quota := 1; ; quota++ {
			f := files.New(quota)
			if e, err, _ := errand.Start(f, text); err == errand.OK {
				if e == nil || quota < len(text) {
					t.Errorf("Start(%q) within %d bytes", text, quota)
				}
				break
			}
			testStartFull(t, f, text)
			if quota > 2000 {
				t.Fatalf("Start(%q): no quota is enough", text)
			}
		}
	}
}
