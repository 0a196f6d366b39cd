package journal

import (
	"errors"
	"math/rand"
	"slices"
	"strconv"
	"strings"
	"testing"

	"errand/files"
	"errand/machine"
)

const text = "call a()\n;"

func held(data string) *files.Files {
	f := files.New(0)
	f.Create(name)
	f.Append(name, data)
	f.Sync(name)
	return f
}

func TestWhatIsRead(t *testing.T) {
	first := "\"call a()\\n;\"\n"
	for _, c := range []struct {
		stands  string
		answers []int
		err     error
	}{
		{"", nil, ErrTorn},
		{"\"", nil, ErrTorn},
		{first[:len(first)-1], nil, ErrTorn},
		{"anything", nil, ErrTorn},
		{first, nil, nil},
		{first + "?", nil, nil},
		{first + "?!", nil, nil},
		{first + "?!5", nil, nil},
		{first + "?!5\n", []int{5}, nil},
		{first + "?!-7\n?!0\n?", []int{-7, 0}, nil},
		{first + "?!12!3\n", []int{3}, nil},
		{first + "?!1!!3\n?!4!", []int{3}, nil},
		{first + "?!9223372036854775807\n?!-9223372036854775808\n", []int{9223372036854775807, -9223372036854775808}, nil},
		{first + "?!9223372036854775808\n", nil, ErrOther},
		{first + "?!\n", nil, ErrOther},
		{first + "?\n", nil, ErrOther},
		{first + "5\n", nil, ErrOther},
		{first + "\n", nil, ErrOther},
		{first + "?!5 \n", nil, ErrOther},
		{first + "?!5\nx\n?!5\n", nil, ErrOther},
		{"\n", nil, ErrOther},
		{"x\n", nil, ErrOther},
		{"\"call a();\"\n", nil, ErrOther},
		{"\"call a();\"\n?!5\n?", nil, ErrOther},
		{"call a()\n;\n", nil, ErrOther},
	} {
		answers, err := read(c.stands, text)
		var fault *Fault
		if !slices.Equal(answers, c.answers) || !errors.Is(err, c.err) || (err != nil) != errors.As(err, &fault) {
			t.Errorf("read(%q) = %v, %v, want %v, %v", c.stands, answers, err, c.answers, c.err)
		}
	}
}

// Journals that stand already must be found again: so the bytes of a heading stay as they were.
func TestTheHeadingIsTheTextInQuotes(t *testing.T) {
	all := "\n"
	for c := ' '; c <= '~'; c++ {
		all += string(c)
	}
	for _, text := range []string{"", " ", "\n", "\n\n", text, "\nlet x=1;\n\nif x#(2){}\n", all, strings.Repeat("\n", 300), strings.Repeat("fail;", 60)} {
		if got, want := heading(text), strconv.Quote(text)+"\n"; got != want {
			t.Errorf("heading(%q) = %q, want %q", text, got, want)
		}
	}
}

func TestNoTwoTextsHaveOneHeading(t *testing.T) {
	texts := []string{""}
	of := map[string]string{}
	for i := 0; i < len(texts); i++ {
		line := heading(texts[i])
		if other, ok := of[line]; ok || strings.Index(line, "\n") != len(line)-1 {
			t.Errorf("heading(%q) = %q, as that of %q", texts[i], line, other)
		}
		of[line] = texts[i]
		if len(texts[i]) < 5 {
			for _, c := range []string{"\n", "\\", "n", "\"", "\xff"} {
				texts = append(texts, texts[i]+c)
			}
		}
	}
}

func TestNumbersAreRead(t *testing.T) {
	texts := []string{
		"", "-", "+", "0", "-0", "+0", "007", "-007", "+7", "--7", "+-7", "-+7", "7-", "7 ", " 7", "1_000", "0x7", "7.0", "1e3", "\x00", "\xff", "/", ":", "٧",
		"9223372036854775799", "9223372036854775807", "9223372036854775808", "9223372036854775809", "9223372036854775810", "+9223372036854775807", "+9223372036854775808",
		"-9223372036854775799", "-9223372036854775807", "-9223372036854775808", "-9223372036854775809", "-9223372036854775810", "-9223372036854775818",
		"922337203685477580", "922337203685477581", "18446744073709551615", "18446744073709551616", "-18446744073709551616", "99999999999999999999", "00000000000000000000009", "-00000000000000000000009",
		strings.Repeat("9", 1000), strings.Repeat("0", 1000) + "5",
	}
	chance := rand.New(rand.NewSource(9))
	for range 20000 {
		texts = append(texts, strconv.Itoa(int(chance.Uint64()>>chance.Intn(64))))
		some := make([]byte, chance.Intn(22))
		for i := range some {
			some[i] = "-+0123456789999x"[chance.Intn(16)]
		}
		texts = append(texts, string(some))
	}
	for _, text := range texts {
		want, err := strconv.Atoi(text)
		if err != nil {
			want = 0
		}
		if got, ok := readNumber(text); got != want || ok != (err == nil) {
			t.Errorf("readNumber(%q) = %d, %v, want %d, %v", text, got, ok, want, err)
		}
	}
}

func TestWhatIsLeftToWrite(t *testing.T) {
	for _, c := range []struct{ answer, stands, want string }{
		{"!17\n", "", "!17\n"},
		{"!17\n", "x\n?", "!17\n"},
		{"!17\n", "x\n?!", "17\n"},
		{"!17\n", "x\n?!1", "7\n"},
		{"!17\n", "x\n?!17", "\n"},
		{"!17\n", "x\n?!7", "!17\n"},
		{"!17\n", "x\n?!171", "!17\n"},
		{"!17\n", "x\n?!5!1", "7\n"},
		{"!17\n", "x\n?!17\n", "!17\n"},
		{"!17\n", "x\n?!17\n?", "!17\n"},
	} {
		got := leftOf(c.answer, c.stands)
		if got != c.want {
			t.Errorf("leftOf(%q, %q) = %q, want %q", c.answer, c.stands, got, c.want)
		}
	}
}

func TestBytesOfAJournal(t *testing.T) {
	f := files.New(0)
	j, err := Open(f, text)
	if err != nil {
		t.Fatal(err)
	}
	want := machine.Ask{Word: "a", Try: 1}
	for range 2 {
		if _, ok := j.AnswerTo(want); ok {
			t.Errorf("there is an answer")
		}
		for _, told := range []bool{false, true} {
			if a, again, err := j.Ask(); a != want || again != told || err != nil {
				t.Errorf("Ask = %v, %v, %v", a, again, err)
			}
		}
		if err := j.Tell(-12); err != nil {
			t.Error(err)
		}
		if n, ok := j.AnswerTo(want); n != -12 || !ok {
			t.Errorf("AnswerTo = %d, %v", n, ok)
		}
	}
	if got, _ := f.Read(name); got != "\"call a()\\n;\"\n?!-12\n?!-12\n" || len(f.Names()) != 1 {
		t.Errorf("the files %v, the journal %q", f.Names(), got)
	}
}

// What is read again behind a loss goes on in the line that was torn.
func TestATornAnswerIsToldAgain(t *testing.T) {
	for stands, want := range map[string]string{
		"?":     "?!123\n",
		"?!":    "?!123\n",
		"?!12":  "?!123\n",
		"?!123": "?!123\n",
		"?!2":   "?!2!123\n",
	} {
		f := held(heading(text) + stands)
		j, err := Open(f, text)
		if err != nil {
			t.Fatal(err)
		}
		if _, again, err := j.Ask(); !again || err != nil {
			t.Errorf("%q: Ask: %v, %v", stands, again, err)
		}
		if err := j.Tell(123); err != nil {
			t.Errorf("%q: Tell: %v", stands, err)
		}
		if got, _ := f.Read(name); got != heading(text)+want {
			t.Errorf("%q became %q", stands, got)
		}
	}
}

func TestNothingIsWrittenBehindAnotherOnesBytes(t *testing.T) {
	for _, now := range []string{"", "x", heading(text), heading(text) + "?!5\n", heading(text) + "?!55\n?"} {
		f := held(heading(text) + "?!5\n?")
		j, err := Open(f, text)
		if err != nil {
			t.Fatal(err)
		}
		f.Create(name)
		f.Append(name, now)
		if _, again, err := j.Ask(); again || !errors.Is(err, ErrOther) {
			t.Errorf("%q: Ask: %v, %v", now, again, err)
		}
		if err := j.Tell(5); !errors.Is(err, ErrOther) {
			t.Errorf("%q: Tell: %v", now, err)
		}
		if got, _ := f.Read(name); got != now {
			t.Errorf("%q became %q", now, got)
		}
	}
}

func TestWhatFaultsTell(t *testing.T) {
	_, err := read("", text)
	if want := "the heading: a line: it is torn"; err.Error() != want {
		t.Errorf("%q, want %q", err.Error(), want)
	}
	if _, err := Open(files.New(3), text); !errors.Is(err, ErrFull) || err.Error() != "the heading: the files are full" {
		t.Errorf("%v", err)
	}
	if _, err := Open(nil, text); !errors.Is(err, ErrFull) {
		t.Errorf("%v", err)
	}
}
