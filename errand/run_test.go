package errand_test

import (
	"fmt"
	"math"
	"slices"
	"strings"
	"testing"

	"errand/errand"
)

// no is an answer below 0.
const no = -1

type runCase struct {
	text    string
	answers []int
	want    string // each ask as word(number)try, with - ahead of it if it undoes; and the end
}

var endNames = []string{"Waits", "Done", "Undone", "Stuck", "Spent"}

func toldAsks(asks []errand.Ask, end int) string {
	out := ""
	for _, a := range asks {
		if a.Undo {
			out += "-"
		}
		out += fmt.Sprintf("%s(%d)%d ", a.Word, a.Arg, a.Try)
	}
	return out + endNames[end]
}

// testRun holds Run, and Exec of what Code answers, against what is wanted.
func testRun(t *testing.T, cases []runCase) {
	t.Helper()
	for _, c := range cases {
		given := slices.Clone(c.answers)
		asks, end, err, place := errand.Run(c.text, c.answers)
		if got := toldAsks(asks, end); got != c.want || err != errand.OK || place != 0 {
			t.Errorf("Run(%q, %v) = %s, %d, %d, want %s", c.text, c.answers, got, err, place, c.want)
		}
		code, err, place := errand.Code(c.text)
		if err != errand.OK || place != 0 {
			t.Errorf("Code(%q): %d, %d", c.text, err, place)
		}
		asks, end, err = errand.Exec(code, c.answers)
		if got := toldAsks(asks, end); got != c.want || err != errand.OK {
			t.Errorf("Exec of the code of %q, %v = %s, %d, want %s", c.text, c.answers, got, err, c.want)
		}
		if !slices.Equal(c.answers, given) {
			t.Errorf("%q: the answers %v were changed to %v", c.text, given, c.answers)
		}
	}
}

func TestRunCalls(t *testing.T) {
	testRun(t, []runCase{
		{"", nil, "Done"},
		{" \n", []int{1, 2}, "Done"},
		{"call a();", nil, "a(0)1 Waits"},
		{"call a();", []int{0}, "a(0)1 Done"},
		{"call a();", []int{0, 1, no}, "a(0)1 Done"},
		{"call a(7);call b(8);", []int{0}, "a(7)1 b(8)1 Waits"},
		{"call eightlet(9999);", []int{3}, "eightlet(9999)1 Done"},
		{"call a()as x;call a(x);call a(x)as x;call a(x);", []int{5, 6, 7, 8}, "a(0)1 a(5)1 a(5)1 a(7)1 Done"},
		{"call a();call b();", []int{no, 1}, "a(0)1 Undone"},
		{"call a();call b();", []int{math.MinInt, 1}, "a(0)1 Undone"},
		{"call x()as x;call x(x);", []int{math.MaxInt}, fmt.Sprintf("x(0)1 x(%d)1 Waits", math.MaxInt)},
	})
}

func TestRunTries(t *testing.T) {
	testRun(t, []runCase{
		{"call a(3)tries 3;", []int{no}, "a(3)1 a(3)2 Waits"},
		{"call a(3)tries 3;", []int{no, no, 0}, "a(3)1 a(3)2 a(3)3 Done"},
		{"call a(3)tries 3;", []int{no, no, no, 0}, "a(3)1 a(3)2 a(3)3 Undone"},
		{"call a()tries 5;call a()tries 5;", []int{no, no, no, no, 4, no, 9}, "a(0)1 a(0)2 a(0)3 a(0)4 a(0)5 a(0)1 a(0)2 Done"},
		{"call a()tries 1;", []int{no, 0}, "a(0)1 Undone"},
		{"call a()as x tries 2;call b(x);", []int{no, 6, 0}, "a(0)1 a(0)2 b(6)1 Done"},
		{"repeat 2{try{call a()tries 2;}else{}}", []int{no, no, no, 3}, "a(0)1 a(0)2 a(0)1 a(0)2 Done"},
		{"let x=9;try{call a()as x tries 2;}else{}call b(x);", []int{no, no}, "a(0)1 a(0)2 b(9)1 Waits"},
	})
}

func TestRunUndo(t *testing.T) {
	testRun(t, []runCase{
		{"call a()undo x;", []int{1}, "a(0)1 Done"},
		{"call a()undo x;fail;", []int{1}, "a(0)1 -x(1)1 Waits"},
		{"call a()undo x;fail;", []int{1, 0}, "a(0)1 -x(1)1 Undone"},
		{"call a()undo a;call b()undo b;call c();fail;", []int{1, 2, 3, 0, 0}, "a(0)1 b(0)1 c(0)1 -b(2)1 -a(1)1 Undone"},
		{"call a()undo x tries 2;fail;", []int{no, 8, 0}, "a(0)1 a(0)2 -x(8)1 Undone"},
		{"call a()undo x tries 2;fail;", []int{no, no, 0}, "a(0)1 a(0)2 Undone"},
		{"call a()as v undo x;let v=5;fail;", []int{8, 0}, "a(0)1 -x(8)1 Undone"},
		{"repeat 3{call a()undo x;}fail;", []int{1, 2, 3, 0, 0, 0}, "a(0)1 a(0)1 a(0)1 -x(3)1 -x(2)1 -x(1)1 Undone"},
		{"call a()undo x;let y=1/0;", []int{4, 0}, "a(0)1 -x(4)1 Undone"},
		{"call a()undo x;call b();", []int{4, no, 0}, "a(0)1 b(0)1 -x(4)1 Undone"},
	})
}

func TestRunStuck(t *testing.T) {
	testRun(t, []runCase{
		{"call a()undo x;fail;", []int{1, no, no}, "a(0)1 -x(1)1 -x(1)2 -x(1)3 Waits"},
		{"call a()undo x;fail;", []int{1, no, no, 0}, "a(0)1 -x(1)1 -x(1)2 -x(1)3 Undone"},
		{"call a()undo x;fail;", []int{1, no, no, no, 0}, "a(0)1 -x(1)1 -x(1)2 -x(1)3 Stuck"},
		{"call a()undo x tries 5;fail;", []int{1, no, no, no, 0}, "a(0)1 -x(1)1 -x(1)2 -x(1)3 Stuck"},
		{"call a()undo x;call b()undo y;fail;", []int{1, 2, no, no, 0, no, 0}, "a(0)1 b(0)1 -y(2)1 -y(2)2 -y(2)3 -x(1)1 -x(1)2 Undone"},
		{"call a()undo x;call b()undo y;fail;", []int{1, 2, no, no, no, 0}, "a(0)1 b(0)1 -y(2)1 -y(2)2 -y(2)3 Stuck"},
		{"try{call a()undo x;fail;}else{call b();}", []int{1, no, no, no, 0}, "a(0)1 -x(1)1 -x(1)2 -x(1)3 Stuck"},
		{"try{try{call a()undo x;fail;}else{}}else{call b();}", []int{1, no, no, no, 0}, "a(0)1 -x(1)1 -x(1)2 -x(1)3 Stuck"},
	})
}

func TestRunTry(t *testing.T) {
	testRun(t, []runCase{
		{"try{}else{call b();}", nil, "Done"},
		{"try{call a();}else{call b();}call c();", []int{0, 0}, "a(0)1 c(0)1 Done"},
		{"try{call a();}else{call b();}call c();", []int{no, 0, 0}, "a(0)1 b(0)1 c(0)1 Done"},
		{"try{fail;call a();}else{call b();}", []int{0}, "b(0)1 Done"},
		{"try{call a()undo x;call b();}else{}call c();", []int{1, no, 0, 0}, "a(0)1 b(0)1 -x(1)1 c(0)1 Done"},
		// only the try's own pile is undone
		{"call a()undo x;try{call b()undo y;fail;}else{}", []int{1, 2, 0}, "a(0)1 b(0)1 -y(2)1 Done"},
		// a pile whose block has ended is the one's before
		{"call a()undo x;try{call b()undo y;call c()undo z;}else{}fail;", []int{1, 2, 3, 0, 0, 0}, "a(0)1 b(0)1 c(0)1 -z(3)1 -y(2)1 -x(1)1 Undone"},
		// the second block is done with the pile before
		{"call a()undo x;try{fail;}else{call b()undo y;fail;}", []int{1, 2, 0, 0}, "a(0)1 b(0)1 -y(2)1 -x(1)1 Undone"},
		{"try{fail;}else{call a()undo x;}fail;", []int{1, 0}, "a(0)1 -x(1)1 Undone"},
		{"try{fail;}else{fail;}call a();", nil, "Undone"},
		{"try{let x=1/0;}else{call a();}", []int{0}, "a(0)1 Done"},
		{"try{if 1/0=1{}}else{call a();}", []int{0}, "a(0)1 Done"},
		{"try{call a(1/0);}else{call b();}", []int{0}, "b(0)1 Done"},
		// variables are the errand's, whatever is undone
		{"let x=1;try{let x=2;fail;}else{call a(x);}", []int{0}, "a(2)1 Done"},
	})
}

func TestRunTryInTry(t *testing.T) {
	testRun(t, []runCase{
		{"try{call a()undo x;try{call b()undo y;fail;}else{call c()undo z;}fail;}else{call d();}", []int{1, 2, 0, 3, 0, 0, 0}, "a(0)1 b(0)1 -y(2)1 c(0)1 -z(3)1 -x(1)1 d(0)1 Done"},
		{"try{call a()undo x;try{call b()undo y;}else{}fail;}else{call d();}", []int{1, 2, 0, 0, 0}, "a(0)1 b(0)1 -y(2)1 -x(1)1 d(0)1 Done"},
		{"try{call a()undo x;try{fail;}else{call c()undo z;fail;}}else{call d();}", []int{1, 3, 0, 0, 0}, "a(0)1 c(0)1 -z(3)1 -x(1)1 d(0)1 Done"},
		{"try{fail;}else{try{call a()undo x;fail;}else{call b();}call c();}", []int{1, 0, 2, 3}, "a(0)1 -x(1)1 b(0)1 c(0)1 Done"},
		{"call o()undo p;try{fail;}else{try{call a()undo x;fail;}else{fail;}call c();}", []int{9, 1, 0, 0}, "o(0)1 a(0)1 -x(1)1 -p(9)1 Undone"},
		{"call o()undo p;try{fail;}else{try{call a()undo x;}else{}fail;}", []int{9, 1, 0, 0}, "o(0)1 a(0)1 -x(1)1 -p(9)1 Undone"},
		{"try{try{try{try{fail;}else{fail;}}else{fail;}}else{fail;}}else{call a();}", []int{0}, "a(0)1 Done"},
		{"try{try{}else{}try{}else{}fail;}else{call a();}", []int{0}, "a(0)1 Done"},
	})
}

func TestRunRepeat(t *testing.T) {
	testRun(t, []runCase{
		{"repeat 0{call a();}", nil, "Done"},
		{"repeat 1{call a();}", []int{0}, "a(0)1 Done"},
		{"let x=0;repeat 9{repeat 9{let x=x+1;}}call a(x);", []int{0}, "a(81)1 Done"},
		{"repeat 2{call a();repeat 2{call b();}}", []int{0, 0, 0, 0, 0, 0}, "a(0)1 b(0)1 b(0)1 a(0)1 b(0)1 b(0)1 Done"},
		{"repeat 3{call a();}call b();", []int{0, no, 0}, "a(0)1 a(0)1 Undone"},
		{"repeat 3{try{call a()undo x;repeat 2{call b();}}else{call c();}}", []int{1, no, 0, 0, 2, 0, no, 0, 0, 3, 0, 0}, "a(0)1 b(0)1 -x(1)1 c(0)1 a(0)1 b(0)1 b(0)1 -x(2)1 c(0)1 a(0)1 b(0)1 b(0)1 Done"},
		{"repeat 2{repeat 2{try{repeat 3{fail;}}else{call a();}}call b();}", []int{0, 0, 0, 0, 0, 0}, "a(0)1 a(0)1 b(0)1 a(0)1 a(0)1 b(0)1 Done"},
		{"try{repeat 2{call a()undo x;}fail;}else{repeat 2{call b();}}", []int{1, 2, 0, 0, 0, 0}, "a(0)1 a(0)1 -x(2)1 -x(1)1 b(0)1 b(0)1 Done"},
		{"repeat 2{try{let x=1+2*(3/0);}else{call a(x);}}", []int{0, 0}, "a(0)1 a(0)1 Done"},
	})
}

func TestRunIf(t *testing.T) {
	testRun(t, []runCase{
		{"if true{call a();}", nil, "a(0)1 Waits"},
		{"if false{call a();}", nil, "Done"},
		{"if true{call a();}else{call b();}call c();", []int{0, 0}, "a(0)1 c(0)1 Done"},
		{"if false{call a();}else{call b();}call c();", []int{0, 0}, "b(0)1 c(0)1 Done"},
		{"if true{}else{call b();}call c();", []int{0}, "c(0)1 Done"},
		{"if false{call a();}else{}call c();", []int{0}, "c(0)1 Done"},
		{"if true{if false{call a();}else{call b();}}else{call c();}", nil, "b(0)1 Waits"},
		{"call a()as x;if x<3{call b();}else{if x=3{call c();}else{call d();}}", []int{2}, "a(0)1 b(0)1 Waits"},
		{"call a()as x;if x<3{call b();}else{if x=3{call c();}else{call d();}}", []int{3}, "a(0)1 c(0)1 Waits"},
		{"call a()as x;if x<3{call b();}else{if x=3{call c();}else{call d();}}", []int{4}, "a(0)1 d(0)1 Waits"},
	})
}

// TestExprs holds what an expr makes: a truth is asked for by two calls.
func TestExprs(t *testing.T) {
	for expr, want := range map[string]string{
		"1+2*3":         "7",
		"(1+2)*3":       "9",
		"7-2-1":         "4",
		"7-(2-1)":       "6",
		"100/5/2":       "10",
		"7/2*2":         "6",
		"7/2":           "3",
		"(0-7)/2":       "-3",
		"7/(0-2)":       "-3",
		"(0-7)/(0-2)":   "3",
		"0/5":           "0",
		"0000":          "0",
		"0012*9999":     "119988",
		"m+1":           "-9223372036854775808",
		"0-m-1":         "-9223372036854775808",
		"0-m-2":         "9223372036854775807",
		"m*2":           "-2",
		"m*m":           "1",
		"(0-m-1)*(0-1)": "-9223372036854775808",
		"(0-m-1)/(0-1)": "-9223372036854775808",
		"(0-m-1)/1":     "-9223372036854775808",
		"m/(0-1)":       "-9223372036854775807",
		"(m+1)/m":       "-1",
		"zero":          "0",
	} {
		text := "call in()as m;if false{let zero=1;}call out(" + expr + ");"
		testRun(t, []runCase{{text, []int{math.MaxInt}, "in(0)1 out(" + want + ")1 Waits"}})
	}
}

func TestTruths(t *testing.T) {
	for expr, want := range map[string]bool{
		"1<2": true, "2<2": false, "3<2": false, "0-1<0": true, "m+1<m": true,
		"2=2": true, "2=3": false, "2#2": false, "2#3": true,
		"true=true": true, "false=false": true, "true=false": false, "true#false": true, "false#false": false,
		"not true": false, "not false": true, "not not true": true, "not(1<2)": false, "not true=false": true,
		"no": false, "no=false": true, "not no": true, "1+1=2": true, "(1<2)=(3<4)": true, "(1<2)#(3<4)": false,
	} {
		text := "call in()as m;if false{let no=true;}if " + expr + "{call yes();}else{call nay();}"
		asked := map[bool]string{true: "yes", false: "nay"}[want]
		testRun(t, []runCase{{text, []int{math.MaxInt}, "in(0)1 " + asked + "(0)1 Waits"}})
	}
}

func TestDivideByZero(t *testing.T) {
	for _, expr := range []string{"1/0", "0/0", "1+2*(3/0)", "1/0+1", "(1/0)*0", "5-4/(2-2)", "1/(1/2)", "1/0/0"} {
		testRun(t, []runCase{
			{"call a(" + expr + ");", []int{0}, "Undone"},
			{"let x=" + expr + ";call a();", []int{0}, "Undone"},
			{"if " + expr + "=1{}else{}call a();", []int{0}, "Undone"},
			{"let x=5;repeat 2{try{let x=" + expr + ";}else{call a(x);}}", []int{0, 0}, "a(5)1 a(5)1 Done"},
		})
	}
	testRun(t, []runCase{{"let p=1/0=1/0;call a();", nil, "Undone"}, {"call a()as x;call b(10/x);", []int{0}, "a(0)1 Undone"}})
}

func TestRunTellsWhatCheckTells(t *testing.T) {
	for _, text := range []string{"x", "fail", "let x=x;", "if 1{}", "repeat 10{}", "call a()tries 0;", "let x=(((((1)))));", "?", strings.Repeat(" ", 301)} {
		want, at := errand.Check(text)
		if asks, end, err, place := errand.Run(text, []int{1}); asks != nil || end != 0 || err != want || place != at || err == errand.OK {
			t.Errorf("Run(%q) = %v, %d, %d, %d, want %d at %d", text, asks, end, err, place, want, at)
		}
		if code, err, place := errand.Code(text); code != "" || err != want || place != at {
			t.Errorf("Code(%q) = %q, %d, %d, want %d at %d", text, code, err, place, want, at)
		}
	}
}

// The steps are bounded, and no errand may come upon that bound: these are as long as can be.
func TestTheLongestErrandsEnd(t *testing.T) {
	for _, c := range []struct {
		deep       int
		head, part string // the part as many times as there is room
		tail, past string
		round      []int // the answers, again and again
		end        int
	}{
		{4, "let x=1", "+1", ";", "", []int{1}, errand.Done},
		{4, "let x=1;", "let x=x;", "", "", []int{1}, errand.Done},
		{4, "let x=true;", "let x=not not x;", "", "", []int{1}, errand.Done},
		{4, "", "call a();", "", "", []int{1}, errand.Done},
		{4, "", "call a()tries5;", "", "", []int{no, no, no, no, 1}, errand.Done},
		{4, "", "call a()undo b;", "", "fail;", []int{1}, errand.Undone},
		{3, "", "repeat9{}", "", "", []int{1}, errand.Done},
		{3, "", "if true{}else{}", "", "", []int{1}, errand.Done},
		{3, "", "try{}else{}", "", "", []int{1}, errand.Done},
		{3, "", "try{fail;}else{}", "", "", []int{1}, errand.Done},
		{3, "", "try{call a()undo b;fail;}else{}", "", "", []int{1, no, no, 1}, errand.Done},
		{3, "", "try{call a()undo b tries5;fail;}else{}", "", "", []int{no, no, no, no, 1, no, no, 1}, errand.Done},
	} {
		room := 300 - 9*c.deep - len(c.head+c.tail+c.past)
		text := strings.Repeat("repeat9{", c.deep) + c.head + strings.Repeat(c.part, room/len(c.part)) + c.tail + strings.Repeat("}", c.deep) + c.past
		answers := slices.Repeat(c.round, 1000000/len(c.round))
		asks, end, err, place := errand.Run(text, answers)
		if err != errand.OK || place != 0 || end != c.end || len(asks) >= len(answers) {
			t.Errorf("Run(%q): %d asks, %d, %d, %d", text, len(asks), end, err, place)
		}
		code, _, _ := errand.Code(text)
		again, same, err := errand.Exec(code, answers)
		if same != end || err != errand.OK || !slices.Equal(asks, again) {
			t.Errorf("Exec of the code of %q: %d asks, %d, %d, want %d, %d", text, len(again), same, err, len(asks), end)
		}
	}
}

func TestAskedIsNewMemory(t *testing.T) {
	first, _, _, _ := errand.Run("call a();call b();", []int{1, 2})
	first[0].Word, first[1].Arg = "c", 9
	second, _, _, _ := errand.Run("call a();call b();", []int{1, 2})
	if got := toldAsks(second, errand.Done); got != "a(0)1 b(0)1 Done" {
		t.Errorf("asked again: %s", got)
	}
}
