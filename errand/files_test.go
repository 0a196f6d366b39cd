package errand_test

import (
	"math/rand"
	"strings"
	"testing"

	"errand/errand"
	"errand/files"
)

// journalName answers the name of the file that Start makes.
func journalName(t *testing.T) string {
	t.Helper()
	f := files.New(0)
	started(t, f, booking)
	if len(f.Names()) != 1 {
		t.Fatalf("Start made %v", f.Names())
	}
	return f.Names()[0]
}

// anyBytes makes bytes by chance, of which some are such as a journal has.
func anyBytes(chance *rand.Rand) string {
	var out strings.Builder
	for range chance.Intn(20) {
		switch chance.Intn(4) {
		case 0:
			out.WriteByte(byte(chance.Intn(256)))
		case 1:
			out.WriteByte("?!\n\"-0123456789"[chance.Intn(15)])
		case 2:
			out.WriteString([]string{"?!5\n", "?", "!", "\n", "\"call a();\"\n", "call a();"}[chance.Intn(6)])
		case 3:
			out.WriteString("99999999999999999999")
		}
	}
	return out.String()
}

// Whatever stands in the files, no call panics, and files of other names stay as they are.
func TestAnyFiles(t *testing.T) {
	chance := rand.New(rand.NewSource(8))
	name := journalName(t)
	for range 20000 {
		f := files.New(chance.Intn(200))
		for range chance.Intn(4) {
			n := []string{name, name + " ", "", "\x00", "a", anyBytes(chance)}[chance.Intn(6)]
			f.Create(n)
			f.Append(n, anyBytes(chance))
		}
		before := others(f, name)
		text := []string{"", "call a();", "call a()as x tries 5;", "x"}[chance.Intn(4)]
		goOver(t, f, text, []int{1, no, 3})
		if chance.Intn(2) == 0 {
			f.Fuse(chance.Intn(5))
			goOver(t, f, text, []int{1, no, 3})
		}
		if after := others(f, name); after != before {
			t.Fatalf("other files were changed from %s to %s", before, after)
		}
		f.Power([]int{chance.Intn(20)})
		goOver(t, f, text, []int{1, no, 3})
	}
}

// others tells the names and bytes of the files that are no journal.
func others(f *files.Files, name string) string {
	out := ""
	for _, line := range strings.SplitAfter(snapshot(f), "\n") {
		if !strings.HasPrefix(line, "\""+name+"\":") {
			out += line
		}
	}
	return out
}

// Files that are changed below an Errand make no panic, either.
func TestFilesAreChangedBelowAnErrand(t *testing.T) {
	chance := rand.New(rand.NewSource(9))
	name := journalName(t)
	for range 5000 {
		f := files.New(0)
		e := started(t, f, booking)
		for _, answer := range bookingAnswers {
			switch chance.Intn(8) {
			case 0:
				f.Remove(name)
			case 1:
				f.Create(name)
			case 2:
				f.Append(name, anyBytes(chance))
			case 3:
				f.Rename(name, "a")
			case 4:
				f.Rename("a", name)
			}
			e.Next()
			e.Tell(answer)
			e.Value("x")
		}
		goOver(t, f, booking, bookingAnswers)
	}
}

// A call of Next that answers an error has answered no ask, whatever was asked ahead of it.
func TestTellBehindAnErrorOfNext(t *testing.T) {
	f := files.New(0)
	e := started(t, f, booking)
	next(t, e)
	f.Append(journalName(t), "x")
	if a, again, end, err := e.Next(); a != (errand.Ask{}) || again || end != 0 || err == errand.OK {
		t.Errorf("Next = %v, %v, %d, %d", a, again, end, err)
	}
	testTell(t, e, 1, errand.ErrNone)
}

// A journal that has whole bytes ahead of a torn end is read up to there; one that is spoilt in its midst is not this errand's.
func TestASpoiltJournal(t *testing.T) {
	name := journalName(t)
	whole := files.New(0)
	e := started(t, whole, booking)
	for _, answer := range bookingAnswers {
		next(t, e)
		testTell(t, e, answer, errand.OK)
	}
	data, _ := whole.Read(name)
	for at := range data {
		f := files.New(0)
		f.Create(name)
		f.Append(name, data[:at]+"x\n"+data[at:])
		before := snapshot(f)
		if e, err, place := errand.Start(f, booking); e != nil || err != errand.ErrOther || place != 0 || snapshot(f) != before {
			t.Fatalf("spoilt at %d: Start = %v, %d, %d", at, e, err, place)
		}
	}
}
