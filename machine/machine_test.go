package machine

import (
	"errors"
	"math/rand"
	"reflect"
	"slices"
	"strings"
	"testing"

	"errand/lang"
)

func made(t *testing.T, text string) *Program {
	t.Helper()
	tree, err := lang.Read(text)
	if err != nil {
		t.Fatalf("%q: %v", text, err)
	}
	return Make(tree)
}

func started(p *Program, answers ...int) *Machine {
	return New(p, &list{answers: answers})
}

func TestEveryKindHasAMeaning(t *testing.T) {
	for k, row := range meanings() {
		if row.do == nil || len(row.needs) > len(instruction{}.operands) {
			t.Errorf("kind %d: %v", k, row)
		}
	}
}

func TestWhatIsWrittenIsRead(t *testing.T) {
	for _, text := range []string{
		"",
		"fail;call a();",
		"let x=9999;let p=(x<1)=(true#not(x+1-2*3/4=5));if p{call eightlet(x)as x undo b tries 5;}else{fail;}",
		"repeat 9{try{call a();try{fail;}else{}}else{repeat 0{}}}",
	} {
		p := made(t, text)
		got, err := Read(Write(p))
		p.names = nil
		if err != nil || !reflect.DeepEqual(got, p) {
			t.Errorf("%q: %v, %v, want %v", text, got, err, p)
		}
	}
}

// program makes one with two variables and two words.
func program(list ...instruction) *Program {
	return &Program{words: []string{"a", "b"}, variables: 2, list: list}
}

func in(k kind, operands ...int) instruction {
	i := instruction{kind: k}
	copy(i.operands[:], operands)
	return i
}

func TestFlaws(t *testing.T) {
	for _, c := range []struct {
		why  string
		at   int
		list []instruction
	}{
		{"nothing leads there", 1, []instruction{in(kindJump, 2), in(kindFail)}},
		{"nothing leads there", 1, []instruction{in(kindJump, 0), in(kindFail)}},
		{"an operand that stands for nothing", 0, []instruction{in(kindLoad, 2), in(kindDrop)}},
		{"an operand that stands for nothing", 1, []instruction{in(kindPush, 1), in(kindStore, 2)}},
		{"an operand that stands for nothing", 1, []instruction{in(kindPush, 1), in(kindAsk, 2, 1), in(kindDrop)}},
		{"an operand that stands for nothing", 1, []instruction{in(kindPush, 1), in(kindLay, 2), in(kindDrop)}},
		{"an operand that stands for nothing", 0, []instruction{in(kindJump, 2)}},
		{"an operand that stands for nothing", 0, []instruction{in(kindTry, 3), in(kindKeep, 2)}},
		{"it takes what is not there", 0, []instruction{in(kindDrop)}},
		{"it takes what is not there", 1, []instruction{in(kindPush, 1), in(kindAdd), in(kindDrop)}},
		{"it takes what is not there", 0, []instruction{in(kindNot), in(kindDrop)}},
		{"it takes what is not there", 0, []instruction{in(kindAsk, 0, 1)}},
		{"it takes what is not there", 0, []instruction{in(kindLay, 0)}},
		{"it takes what is not there", 0, []instruction{in(kindAgain, 0)}},
		{"it takes what is not there", 0, []instruction{in(kindUnless, 0)}},
		{"it takes what is not there", 2, []instruction{in(kindPush, 1), in(kindTry, 5), in(kindDrop), in(kindPush, 1), in(kindKeep, 5), in(kindDrop)}},
		{"no try ends there", 0, []instruction{in(kindKeep, 0)}},
		{"no try ends there", 2, []instruction{in(kindTry, 3), in(kindPush, 1), in(kindKeep, 3)}},
		{"no try ends there", 2, []instruction{in(kindTry, 2), in(kindKeep, 2), in(kindKeep, 3)}},
		{"two ways lead to one place", 1, []instruction{in(kindPush, 1), in(kindJump, 0)}},
		{"two ways lead to one place", 2, []instruction{in(kindPush, 1), in(kindUnless, 3), in(kindPush, 1), in(kindDrop)}},
		{"two ways lead to one place", 1, []instruction{in(kindTry, 0), in(kindJump, 0)}},
		{"it ends in the midst of something", 1, []instruction{in(kindPush, 1)}},
		{"it ends in the midst of something", 3, []instruction{in(kindPush, 1), in(kindUnless, 0), in(kindPush, 1)}},
	} {
		_, err := Read(Write(program(c.list...)))
		var flaw *Flaw
		if !errors.Is(err, ErrCode) || !errors.As(err, &flaw) {
			t.Errorf("%v: %v, want: %s", c.list, err, c.why)
		} else if flaw.Why != c.why || flaw.At != c.at {
			t.Errorf("%v: %v, want: %s at %d", c.list, err, c.why, c.at)
		}
	}
}

func TestBytesThatAreNone(t *testing.T) {
	code := Write(program())
	for _, c := range []string{
		"", "errand 2\n", heading, heading + "\x00", heading + "\x00\x00", heading + "\x00\x00\x00",
		heading + "\x00\x00\x00\x01", heading + "\x00\x00\x00\x01\x00", heading + "\x00\x00\x00\x01\x02a",
		heading + "\x00\x00\x00\x01\x01A", heading + "\x00\x00\x00\x01\x03a{b", heading + "\x00\x00\x00\x01\x09abcdefghi",
		heading + "\x00\x00\xff\xff\x01a", code + string([]byte{byte(kindCount)}), code + "\xff",
		code + string([]byte{byte(kindCount), byte(kindDrop)}),
		code + string([]byte{byte(kindPush)}), code + string([]byte{byte(kindPush), 0}),
	} {
		p, err := Read(c)
		var flaw *Flaw
		if p != nil || !errors.Is(err, ErrCode) || !errors.As(err, &flaw) {
			t.Errorf("Read(%q) = %v, %v", c, p, err)
		}
	}
}

func TestWordsOfCode(t *testing.T) {
	for b := range 256 {
		for _, w := range []string{"", "a", "zz"} {
			for _, word := range []string{string([]byte{byte(b)}) + w, w + string([]byte{byte(b)}), w + string([]byte{byte(b)}) + w} {
				p, err := Read(Write(&Program{words: []string{word}}))
				if isLetter := 'a' <= b && b <= 'z'; isLetter != (err == nil) || isLetter && p.words[0] != word {
					t.Errorf("the word %q: %v, %v", word, p, err)
				}
			}
		}
	}
}

// grown makes a program by chance of which each instruction fits behind those ahead of it; what is reckoned of it comes along.
func grown(chance *rand.Rand) *verifier {
	p := program(make([]instruction, 1+chance.Intn(12))...)
	v := &verifier{p, meanings(), make([]state, len(p.list)+1)}
	v.states[0] = state{true, 0, noTry}
	for at := range p.list {
		for range 50 {
			i := in(kind(chance.Intn(int(kindCount))))
			for n := range v.table[i.kind].needs {
				i.operands[n] = chance.Intn(len(p.list) + 1)
			}
			before := slices.Clone(v.states)
			if v.look(at, i) == "" {
				p.list[at] = i
				break
			}
			v.states = before
		}
	}
	return v
}

// What passes as code is carried out with any answers, and the stack is as high as it was reckoned to be.
func TestAnyInstructions(t *testing.T) {
	chance := rand.New(rand.NewSource(1))
	kinds := map[kind]int{}
	for range 30000 {
		v := grown(chance)
		p, err := Read(Write(v.program))
		if err != nil {
			continue
		}
		for _, i := range p.list {
			kinds[i.kind]++
		}
		testHeights(t, v, started(p, -1, 0, 2, -1, -1, 3, -1, -1, 4))
	}
	for k := range kindCount {
		if kinds[k] < 50 {
			t.Errorf("kind %d was carried out %d times only", k, kinds[k])
		}
	}
}

func testHeights(t *testing.T, v *verifier, m *Machine) {
	t.Helper()
	for range 200 {
		if want := v.states[m.place]; !m.undoing && (!want.known || want.height != m.height() || (want.try != noTry) != (len(m.begun) > 0)) {
			t.Fatalf("%v: at %d the stack is %d high, want %v", m.program.list, m.place, m.height(), want)
		}
		if end := m.run(1); end != Spent {
			return
		}
	}
}

func TestTheLongestCode(t *testing.T) {
	long := Write(program())
	long += strings.Repeat(string([]byte{byte(kindFail)}), maxCode-len(long))
	if _, err := Read(long); err != nil {
		t.Errorf("%d bytes: %v", len(long), err)
	}
	if _, err := Read(long + string([]byte{byte(kindFail)})); !errors.Is(err, ErrCode) {
		t.Errorf("one byte more: %v", err)
	}
}

func TestStepsAreBounded(t *testing.T) {
	round, err := Read(Write(program(in(kindJump, 0))))
	if err != nil {
		t.Fatal(err)
	}
	if asks, end := Run(round, nil); asks != nil || end != Spent {
		t.Errorf("round and round: %v, %d", asks, end)
	}
	// two instructions, and to see that nothing is left
	p := made(t, "let x=1;")
	for most, want := range []End{Spent, Spent, Spent, Done, Done} {
		if end := started(p).run(most); end != want {
			t.Errorf("%d steps: %d, want %d", most, end, want)
		}
	}
}

func TestAStepThatWaitsIsBroughtBack(t *testing.T) {
	answers := &list{answers: []int{-1}}
	m := New(made(t, "call a(7)as x undo b tries 2;fail;"), answers)
	if end := m.run(maxWork); end != Waits || m.program.list[m.place].kind != kindAsk {
		t.Fatalf("%d at %d", end, m.place)
	}
	answers.answers = []int{5, -1}
	if end := m.run(maxWork); end != Waits || !m.undoing || m.variables[0] != 5 {
		t.Fatalf("%d at %d, x is %d", end, m.place, m.variables[0])
	}
	answers.answers = []int{0}
	if end := m.run(maxWork); end != Undone {
		t.Errorf("%d at %d", end, m.place)
	}
}
