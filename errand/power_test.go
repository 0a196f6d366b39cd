package errand_test

import (
	"math/rand"
	"strings"
	"testing"

	"errand/errand"
	"errand/files"
)

// history is what is known of an errand over files whose power may fail.
type history struct {
	text    string
	answers []int // that are told one behind the other
	sure    int   // how many of them must stand
	maybe   int   // how many of them may stand
	asked   bool  // behind the sure ones Next answered an ask
}

// goOn tells answers till the errand has ended, or power is lost.
func (h *history) goOn(t *testing.T, f *files.Files) {
	t.Helper()
	e, err, place := errand.Start(f, h.text)
	if f.Lost() {
		return
	}
	if e == nil || err != errand.OK || place != 0 {
		t.Fatalf("%+v: Start: %d, %d", h, err, place)
	}
	for {
		a, again, end, err := e.Next()
		if f.Lost() {
			return
		}
		if err != errand.OK {
			t.Fatalf("%+v: Next: %d", h, err)
		}
		h.test(t, e, nextTold(t, a, again, end))
		if end != errand.Waits {
			return
		}
		h.maybe = h.sure + 1
		err = e.Tell(h.answers[h.sure])
		if f.Lost() {
			return
		}
		if err != errand.OK {
			t.Fatalf("%+v: Tell: %d", h, err)
		}
		h.sure, h.asked = h.maybe, false
	}
}

// test holds what Next answered against what may stand, and knows from then on what does.
func (h *history) test(t *testing.T, e *errand.Errand, got string) {
	t.Helper()
	for n := h.sure; n <= h.maybe; n++ {
		first, again := wantNext(h.text, h.answers[:n], false), wantNext(h.text, h.answers[:n], true)
		if got == again || got == first && (n > h.sure || !h.asked) {
			h.sure, h.maybe, h.asked = n, n, true
			testValues(t, e, refValues(h.text, h.answers[:n]))
			return
		}
	}
	t.Fatalf("%+v: Next = %s", h, got)
}

// stepsOf answers how many steps over the files an errand needs.
func stepsOf(t *testing.T, text string, answers []int) int {
	t.Helper()
	f := files.New(0)
	h := &history{text: text, answers: answers}
	h.goOn(t, f)
	return f.Steps()
}

// keeps leaves none, some or all of the bytes of a file that were not synced: none has more than these.
func keeps() [][]int {
	all := [][]int{nil}
	for n := range 30 {
		all = append(all, []int{n})
	}
	return append(all, []int{-1}, []int{150}, []int{1000})
}

func TestPowerFailsAtEachStep(t *testing.T) {
	steps := stepsOf(t, booking, bookingAnswers)
	for fuse := range steps + 1 {
		for _, keep := range keeps() {
			f := files.New(0)
			h := &history{text: booking, answers: bookingAnswers}
			f.Fuse(fuse)
			h.goOn(t, f)
			if f.Lost() != (fuse < steps) {
				t.Fatalf("behind %d of %d steps power is lost: %v", fuse, steps, f.Lost())
			}
			f.Power(keep)
			h.goOn(t, f)
			if h.sure != len(bookingAnswers) {
				t.Fatalf("behind %d steps, %v: only %d answers were told", fuse, keep, h.sure)
			}
		}
	}
}

// What is asked is the same behind the loss, and true beside it, if Next answered it; and at each end Next asks for nothing.
func TestNextIsAskedAgainBehindPower(t *testing.T) {
	for n := range len(bookingAnswers) + 1 {
		f := files.New(0)
		e := started(t, f, booking)
		for _, answer := range bookingAnswers[:n] {
			next(t, e)
			testTell(t, e, answer, errand.OK)
		}
		f.Power(nil)
		e = started(t, f, booking)
		testTell(t, e, 0, errand.ErrNone)
		testNext(t, e, wantNext(booking, bookingAnswers[:n], false))
		f.Power(nil)
		testNext(t, started(t, f, booking), wantNext(booking, bookingAnswers[:n], true))
		f.Power(nil)
		testNext(t, started(t, f, booking), wantNext(booking, bookingAnswers[:n], true))
	}
}

// tellApart tells whether an errand ends with these answers, and no two asks in a row are the same: so what is asked shows how many answers stand.
func tellApart(text string, answers []int) bool {
	asks, end := refRun(text, answers)
	for i := range asks {
		if i > 0 && asks[i] == asks[i-1] {
			return false
		}
	}
	return end != errand.Waits
}

// Power fails again and again, in what is started behind a loss, too.
func TestPowerFailsAgainAndAgain(t *testing.T) {
	chance := rand.New(rand.NewSource(6))
	lost, tested := 0, 0
	for _, text := range grownErrands(1500) {
		h := &history{text: text, answers: append(someAnswers(chance), 1, 2, 3, 4)}
		if !tellApart(text, h.answers) {
			continue
		}
		f := files.New(0)
		for range 20 {
			f.Fuse(chance.Intn(12))
			h.goOn(t, f)
			if f.Lost() {
				lost++
			}
			f.Power([]int{chance.Intn(25)})
		}
		h.goOn(t, f)
		tested++
	}
	if tested < 1000 || lost < 1000 {
		t.Errorf("only %d errands were tested, and power was lost %d times", tested, lost)
	}
}

// Where all asks are alike, the variables show which answers stand.
func TestPowerAndLikeAsks(t *testing.T) {
	text := "let s=0;repeat 5{call a()as x;let s=s*10+x;}"
	answers := []int{1, 22, 333, 4444, 55555}
	for fuse := range stepsOf(t, text, answers) + 1 {
		for _, keep := range keeps() {
			f := files.New(0)
			f.Fuse(fuse)
			h := &history{text: text, answers: answers}
			h.goOn(t, f)
			f.Power(keep)
			got, _ := started(t, f, text).Value("s")
			if got != refValues(text, answers[:h.sure])["s"] && got != refValues(text, answers[:h.maybe])["s"] {
				t.Fatalf("behind %d steps, %v: s is %d where %d or %d answers stand", fuse, keep, got, h.sure, h.maybe)
			}
		}
	}
}

// An answer that was torn is followed by another one: that one stands.
func TestAnotherAnswerBehindPower(t *testing.T) {
	text := "call a()as x;call b(x);"
	for fuse := range stepsOf(t, text, []int{17293, 0}) {
		for _, keep := range keeps() {
			for _, second := range []int{0, 1, 5, 17, 172, 17293, 172934, 293, no, -17} {
				f := files.New(0)
				f.Fuse(fuse)
				h := &history{text: text, answers: []int{17293, 0}}
				h.goOn(t, f)
				f.Power(keep)
				e := started(t, f, text)
				got := next(t, e)
				if got != "a(0)1 Waits" && got != "again a(0)1 Waits" {
					continue
				}
				testTell(t, e, second, errand.OK)
				f.Power(nil)
				testNext(t, started(t, f, text), wantNext(text, []int{second}, false))
			}
		}
	}
}

// A loss of power takes up no room: what is enough without one is enough with one, if the same is told.
func TestPowerWithinTheLeastQuota(t *testing.T) {
	f := files.New(0)
	h := &history{text: booking, answers: bookingAnswers}
	h.goOn(t, f)
	quota := 0
	for _, name := range f.Names() {
		data, _ := f.Read(name)
		quota += len(data)
	}
	steps := f.Steps()
	chance := rand.New(rand.NewSource(7))
	for fuse := range steps + 1 {
		for _, keep := range keeps() {
			f := files.New(quota)
			h := &history{text: booking, answers: bookingAnswers}
			f.Fuse(fuse)
			h.goOn(t, f)
			f.Power(keep)
			f.Fuse(chance.Intn(steps))
			h.goOn(t, f)
			f.Power(keep)
			h.goOn(t, f)
		}
	}
	if e, err, _ := errand.Start(files.New(quota-1), booking); e != nil {
		told, _ := goAsFarAsItGoes(t, e)
		if told == len(bookingAnswers) {
			t.Errorf("%d bytes are not the least quota", quota)
		}
	} else if err != errand.ErrFull {
		t.Errorf("Start: %d", err)
	}
}

// Whatever is left of the files of an errand that was not started to its end, another one is started over them, or it is told that they are another one's.
func TestAnotherTextBehindPower(t *testing.T) {
	other := "call other();"
	for fuse := range 10 {
		for _, keep := range keeps() {
			f := files.New(0)
			f.Fuse(fuse)
			_, err, _ := errand.Start(f, booking)
			sure := err == errand.OK && !f.Lost()
			f.Power(keep)
			e, err, place := errand.Start(f, other)
			if sure && err != errand.ErrOther || err != errand.OK && err != errand.ErrOther || place != 0 || (e == nil) != (err != errand.OK) {
				t.Fatalf("behind %d steps, %v: Start = %v, %d, %d", fuse, keep, e, err, place)
			}
			if err == errand.OK {
				testNext(t, e, "other(0)1 Waits")
				testTell(t, e, 1, errand.OK)
				f.Power(nil)
				testNext(t, started(t, f, other), "Done")
			} else {
				testNext(t, started(t, f, booking), wantNext(booking, nil, false))
			}
		}
	}
}

// What was torn at the beginning is brought back, if there is no room for what comes in its place.
func TestFullBehindPower(t *testing.T) {
	for left := range 10 {
		f := files.New(1000)
		f.Fuse(2)
		errand.Start(f, booking)
		f.Power([]int{left})
		fillUp(f)
		before := snapshot(f)
		testStartFull(t, f, booking)
		testStartFull(t, f, "call other();")
		f.Power(nil)
		if after := snapshot(f); after != before {
			t.Fatalf("the files were changed from %s to %s", before, after)
		}
		f.Remove(filler)
		testNext(t, started(t, f, booking), wantNext(booking, nil, false))
	}
}

// An Errand that lived through a loss of power may answer anything, but spoils nothing: what stands is the beginning of what was told to it.
func TestAnErrandThatOutlivedPower(t *testing.T) {
	for fuse := range stepsOf(t, booking, bookingAnswers) {
		for i, keep := range append(keeps(), keeps()...) {
			f := files.New(0)
			e := started(t, f, booking)
			told, sure := 0, 0
			tell := func() {
				e.Next()
				if told == len(bookingAnswers) || e.Tell(bookingAnswers[told]) != errand.OK {
					return
				}
				told++
				if !f.Lost() {
					sure = told
				}
			}
			f.Fuse(fuse)
			for range bookingAnswers {
				if tell(); f.Lost() && i%2 == 0 {
					break
				}
			}
			f.Power(keep)
			tell()
			tell()
			testStandsOneOf(t, started(t, f, booking), sure, told)
		}
	}
}

// testStandsOneOf tells whether at least so many answers stand, and at most so many.
func testStandsOneOf(t *testing.T, e *errand.Errand, least, most int) {
	t.Helper()
	got := strings.TrimPrefix(next(t, e), "again ")
	for n := least; n <= most; n++ {
		if got == wantNext(booking, bookingAnswers[:n], false) {
			return
		}
	}
	t.Fatalf("Next = %s, but %d to %d answers stand", got, least, most)
}
