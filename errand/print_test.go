package errand_test

import (
	"slices"
	"strings"
	"testing"

	"errand/errand"
)

func testPrint(t *testing.T, cases [][2]string) {
	t.Helper()
	for _, c := range cases {
		if got, err, place := errand.Print(c[0]); got != c[1] || err != errand.OK || place != 0 {
			t.Errorf("Print(%q) = %q, %d, %d, want %q", c[0], got, err, place, c[1])
		}
		if got, err, place := errand.Print(c[1]); got != c[1] || err != errand.OK || place != 0 {
			t.Errorf("Print(%q) = %q, %d, %d, want the same", c[1], got, err, place)
		}
	}
}

func TestPrintStatements(t *testing.T) {
	testPrint(t, [][2]string{
		{" \n", ""},
		{"fail ;\nfail;", "fail;fail;"},
		{"call a ( 7 ) as x undo b tries 2 ;", "call a(7)as x undo b tries 2;"},
		{"call a( ) undo b;", "call a()undo b;"},
		{"call a()tries5;repeat9{}", "call a()tries 5;repeat 9{}"},
		{"call a()tries 1;call a()tries 0001;", "call a();call a();"},
		{"call a(0000);repeat 0007{}let x=0120;", "call a(0);repeat 7{}let x=120;"},
		{"if true{}else{}", "if true{}"},
		{"if true{}else{if(false){}else{ }}", "if true{}else{if false{}}"},
		{"try{}else{}try{fail;}else{fail;}", "try{}else{}try{fail;}else{fail;}"},
		{"if(1)=2{}", "if 1=2{}"},
	})
}

func TestPrintBrackets(t *testing.T) {
	testPrint(t, [][2]string{
		{"let x=(((1)));", "let x=1;"},
		{"let x=(1+2)-3;", "let x=1+2-3;"},
		{"let x=1-(2+3);", "let x=1-(2+3);"},
		{"let x=1+(2-3);", "let x=1+(2-3);"},
		{"let x=1+(2*3);", "let x=1+2*3;"},
		{"let x=(1+2)*3;", "let x=(1+2)*3;"},
		{"let x=1*((2+3));", "let x=1*(2+3);"},
		{"let x=(1/2)*3;", "let x=1/2*3;"},
		{"let x=1/(2*3);", "let x=1/(2*3);"},
		{"let p=(1+2)<(3*4);", "let p=1+2<3*4;"},
		{"let p=(1<2)#(3=4);", "let p=(1<2)#(3=4);"},
		{"let p=true=(1<2);", "let p=true=(1<2);"},
		{"let p=(1<2)=true;", "let p=(1<2)=true;"},
		{"let p=not(true);", "let p=not true;"},
		{"let p=not(not(not false));", "let p=not not not false;"},
		{"let p=not(1<2);", "let p=not(1<2);"},
		{"let p=(not true)=false;", "let p=not true=false;"},
		{"let p=not(true=false);", "let p=not(true=false);"},
		{"call a((1+2));call b(((1))*(2));", "call a(1+2);call b(1*2);"},
	})
}

func TestPrintErrors(t *testing.T) {
	for _, text := range []string{"fail", "repeat 10{}", "let x=(((((1)))));", "let x=y;", "if 1{}", strings.Repeat(" ", 301), "\xff"} {
		want, at := errand.Check(text)
		got, err, place := errand.Print(text)
		if want == errand.OK || got != "" || err != want || place != at {
			t.Errorf("Print(%q) = %q, %d, %d, want %d, %d", text, got, err, place, want, at)
		}
	}
}

// A blank is asked for where the text may have none: so few signs may be more bytes.
func TestPrintMayBeLonger(t *testing.T) {
	got, err, place := errand.Print(strings.Repeat("repeat9{}", 33))
	if want := strings.Repeat("repeat 9{}", 33); got != want || err != errand.OK || place != 0 {
		t.Errorf("Print = %q, %d, %d, want %q", got, err, place, want)
	}
}

// joined is what the blanks must be.
func joined(signs []refSign) string {
	out := ""
	for _, s := range signs {
		if out != "" && isRow(out[len(out)-1]) && isRow(s.text[0]) {
			out += " "
		}
		out += s.text
	}
	return out
}

func reading(text string) string {
	signs, _ := refSigns(text)
	read, _ := refReading(signs)
	return read
}

// without answers signs without the bracket that opens at i and its other half; false: there is none that may be left out.
func without(signs []refSign, i int) ([]refSign, bool) {
	if signs[i].text != "(" || i > 1 && signs[i-2].text == "call" {
		return nil, false
	}
	depth := 0
	for k := i; ; k++ {
		switch signs[k].text {
		case "(":
			depth++
		case ")":
			depth--
		}
		if depth == 0 {
			return slices.Concat(signs[:i], signs[i+1:k], signs[k+1:]), true
		}
	}
}

func TestPrintGrown(t *testing.T) {
	printed := 0
	for seed := range int64(1200) {
		text := newGrower(seed, false).errand()
		got, err, _ := errand.Print(text)
		if err != errand.OK {
			continue
		}
		printed++
		signs, _ := refSigns(got)
		if joined(signs) != got {
			t.Errorf("Print(%q) = %q: its blanks", text, got)
		}
		if reading(got) != reading(text) {
			t.Errorf("Print(%q) = %q: it is read as %q, not as %q", text, got, reading(got), reading(text))
		}
		if again, err, _ := errand.Print(got); again != got || err != errand.OK {
			t.Errorf("Print(%q) = %q, %d, want the same", got, again, err)
		}
		for i := range signs {
			less, ok := without(signs, i)
			if ok && refTextFault(joined(less)) < 0 && reading(joined(less)) == reading(got) {
				t.Errorf("Print(%q) = %q: needless brackets at %d", text, got, signs[i].place)
			}
		}
	}
	if printed < 400 {
		t.Errorf("only %d errands were printed", printed)
	}
}
