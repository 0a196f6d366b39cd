package errand_test

import (
	"math"
	"math/rand"
	"slices"
	"strings"
	"testing"

	"errand/errand"
)

// grownErrands answers errands that grow by chance and are of some length.
func grownErrands(count int) []string {
	var texts []string
	for seed := int64(1); len(texts) < count; seed++ {
		g := newGrower(seed, false)
		g.firm = true
		text := g.errand()
		if err, _ := errand.Check(text); err == errand.OK {
			texts = append(texts, text)
		}
	}
	return texts
}

func someAnswers(chance *rand.Rand) []int {
	answers := make([]int, chance.Intn(30))
	noes := chance.Intn(7)
	for i := range answers {
		answers[i] = []int{0, 1, 2, 3, chance.Intn(100), math.MaxInt, math.MaxInt - chance.Intn(5)}[chance.Intn(7)]
		if chance.Intn(8) < noes {
			answers[i] = []int{no, -2, math.MinInt}[chance.Intn(3)]
		}
	}
	return answers
}

// Run, Exec of Code, and another way to do errands: the three must do the same.
func TestGrownErrandsAreDone(t *testing.T) {
	chance := rand.New(rand.NewSource(3))
	ends := map[int]int{}
	for _, text := range grownErrands(4000) {
		code, _, _ := errand.Code(text)
		for range 4 {
			answers := someAnswers(chance)
			asks, end := refRun(text, answers)
			ends[end]++
			testRun(t, []runCase{{text, answers, toldAsks(asks, end)}})
			if again, _, _ := errand.Code(text); again != code {
				t.Errorf("Code(%q) is another one each time", text)
			}
		}
	}
	for _, end := range []int{errand.Waits, errand.Done, errand.Undone, errand.Stuck} {
		if ends[end] < 200 {
			t.Errorf("the end %s came up %d times only", endNames[end], ends[end])
		}
	}
}

// With fewer answers the same is asked, up to the first one that has none.
func TestFewerAnswers(t *testing.T) {
	chance := rand.New(rand.NewSource(4))
	for _, text := range grownErrands(300) {
		answers := someAnswers(chance)
		all, end, _, _ := errand.Run(text, answers)
		for n := range answers {
			asks, early, _, _ := errand.Run(text, answers[:n])
			want := toldAsks(all, end)
			if n < len(all) {
				want = toldAsks(all[:n+1], errand.Waits)
			}
			if got := toldAsks(asks, early); got != want {
				t.Errorf("Run(%q, %v) = %s, want %s", text, answers[:n], got, want)
			}
		}
	}
}

// testHostile holds what Exec answers to any text against what it may.
func testHostile(t *testing.T, code string, answers []int) int {
	t.Helper()
	given := slices.Clone(answers)
	asks, end, err := errand.Exec(code, answers)
	switch {
	case err == errand.ErrCode && asks == nil && end == 0:
		end = -1
	case err != errand.OK || end < errand.Waits || end > errand.Spent:
		t.Fatalf("Exec(%q, %v) = %v, %d, %d", code, answers, asks, end, err)
	case end == errand.Waits && len(asks) != len(answers)+1 || end != errand.Waits && len(asks) > len(answers):
		t.Fatalf("Exec(%q, %v): %d asks, and the end %d", code, answers, len(asks), end)
	}
	if !slices.Equal(answers, given) {
		t.Fatalf("Exec(%q): the answers were changed", code)
	}
	return end
}

func TestChangedCode(t *testing.T) {
	ends := map[int]int{}
	for _, text := range []string{
		"",
		"call a(1)as x undo b tries 2;try{repeat 3{call c(x);fail;}}else{if x<2{fail;}}",
		"let x=1+2*3;let p=not(x=4)#true;if p{let x=x/(x-x);}",
		"try{try{call a()undo b;}else{fail;}}else{repeat 2{repeat 2{call c()undo d;}}}fail;",
	} {
		code, _, _ := errand.Code(text)
		for at := range len(code) {
			ends[testHostile(t, code[:at], []int{1, no})]++
			ends[testHostile(t, code[at:], []int{1, no})]++
			ends[testHostile(t, code[:at]+code[at+1:], []int{1, no})]++
			for change := range 256 {
				changed := code[:at] + string([]byte{byte(change)}) + code[at+1:]
				ends[testHostile(t, changed, []int{1, 2, 3, no, 5})]++
			}
		}
	}
	for _, end := range []int{-1, errand.Waits, errand.Done, errand.Undone} {
		if ends[end] == 0 {
			t.Errorf("the end %d (-1: ErrCode) never came up", end)
		}
	}
}

func TestMuchChangedCode(t *testing.T) {
	chance := rand.New(rand.NewSource(5))
	texts := grownErrands(500)
	for range 20000 {
		code, _, _ := errand.Code(texts[chance.Intn(len(texts))])
		b := []byte(code)
		for range 1 + chance.Intn(3) {
			at := chance.Intn(len(b))
			switch chance.Intn(3) {
			case 0:
				b[at] ^= 1 << chance.Intn(8)
			case 1:
				b[at] = byte(chance.Intn(24))
			case 2:
				to := chance.Intn(len(b))
				b[at], b[to] = b[to], b[at]
			}
		}
		testHostile(t, string(b), someAnswers(chance))
	}
}

func TestNoCode(t *testing.T) {
	code, _, _ := errand.Code("call a();")
	for _, text := range []string{"", "x", "call a();", code + "x", "x" + code, code + code, code[:len(code)-1], strings.ToUpper(code), "\x00\xff", strings.Repeat("\x00", 1<<20)} {
		if asks, end, err := errand.Exec(text, []int{1}); asks != nil || end != 0 || err != errand.ErrCode {
			t.Errorf("Exec(%.40q) = %v, %d, %d", text, asks, end, err)
		}
	}
}

// A count that was made greater in the code lets it go on too long.
func TestSpent(t *testing.T) {
	code, _, _ := errand.Code("repeat 8{repeat 8{repeat 8{repeat 8{call a()undo b;}}}}")
	grown := strings.ReplaceAll(code, "\x00\x08", "\xff\xff")
	if grown == code {
		t.Fatal("the counts are not found in the code")
	}
	if asks, end, err := errand.Exec(grown, make([]int, 5000000)); asks != nil || end != errand.Spent || err != errand.OK {
		t.Errorf("Exec: %d asks, %d, %d", len(asks), end, err)
	}
	if asks, end, err := errand.Exec(grown, make([]int, 100)); len(asks) != 101 || end != errand.Waits || err != errand.OK {
		t.Errorf("Exec: %d asks, %d, %d", len(asks), end, err)
	}
}
