package errand_test

import (
	"strings"
	"testing"

	"errand/errand"
)

type checkCase struct {
	text  string
	err   errand.Errno
	place int
}

func testCheck(t *testing.T, cases []checkCase) {
	t.Helper()
	for _, c := range cases {
		if err, place := errand.Check(c.text); err != c.err || place != c.place {
			t.Errorf("Check(%q) = %d, %d, want %d, %d", c.text, err, place, c.err, c.place)
		}
		if err, place := refCheck(c.text); err != c.err || place != c.place {
			t.Errorf("the reference: (%q) = %d, %d, want %d, %d", c.text, err, place, c.err, c.place)
		}
	}
}

func TestErrands(t *testing.T) {
	testCheck(t, []checkCase{
		{"", errand.OK, 0},
		{"\n \n", errand.OK, 0},
		{"fail;fail;", errand.OK, 0},
		{"call a(1)as x undo b tries 5;call x()as a;", errand.OK, 0},
		{"let lets=1;let calls=lets;", errand.OK, 0},
		{"let x=1;let p=x=1;let p=p#p=false;", errand.ErrText, 27},
		{"let x=1;let p=x=1;let p=(p#p)=false;", errand.OK, 0},
		{"if not true{}else{if false{}}try{fail;}else{}repeat 3{}", errand.OK, 0},
		{"repeat9{}call a()tries5;", errand.OK, 0},
		{"let p=not1=2;", errand.ErrType, 6},
		{"let a=0;let a=9999;let a=0000;", errand.OK, 0},
		{"repeat 0{let x=1;}call a(x);", errand.OK, 0},
		{"if true{let x=1;}else{call a(x);}", errand.OK, 0},
		{"try{call a()as x;}else{call b(x);}", errand.OK, 0},
	})
}

func TestTooLong(t *testing.T) {
	testCheck(t, []checkCase{
		{"fail;" + strings.Repeat(" ", 295), errand.OK, 0},
		{"fail;" + strings.Repeat(" ", 296), errand.ErrLong, 0},
		{strings.Repeat("fail;", 60), errand.OK, 0},
		{strings.Repeat("fail;", 60) + ";", errand.ErrLong, 0},
		{strings.Repeat("fail;", 59) + "fail ", errand.ErrText, 300},
		{strings.Repeat("\xff", 300), errand.ErrText, 0},
		{strings.Repeat("\xff", 301), errand.ErrLong, 0},
	})
	for _, piece := range []string{"(", "let x=", "if true{", "not ", "\x00"} {
		if err, place := errand.Check(strings.Repeat(piece, 1000000)); err != errand.ErrLong || place != 0 {
			t.Errorf("a million times %q: %d, %d, want ErrLong", piece, err, place)
		}
	}
}

func TestNoSign(t *testing.T) {
	testCheck(t, []checkCase{
		{"call eightlet();", errand.OK, 0},
		{"call ninelette();", errand.ErrText, 5},
		{"call repeatxyz();", errand.ErrText, 5},
		{"call a(9999);", errand.OK, 0},
		{"call a(00000);", errand.ErrText, 7},
		{"repeat 00001{}", errand.ErrText, 7},
		{"call a()tries 00001;", errand.ErrText, 14},
		{"\t", errand.ErrText, 0},
		{"fail;\r\n", errand.ErrText, 5},
		{"fail;\x00", errand.ErrText, 5},
		{"fail;é", errand.ErrText, 5},
		{"let x=1>2;", errand.ErrText, 7},
		{"let X=1;", errand.ErrText, 4},
		{"let x_y=1;", errand.ErrText, 5},
		{"let x=1.5;", errand.ErrText, 7},
		{"call a(\"b\");", errand.ErrText, 7},
		{"if true [", errand.ErrText, 8},
	})
}

// Whichever comes first: a byte that begins no sign, or a sign that can't stand there.
func TestFirstOfTwoTextErrors(t *testing.T) {
	testCheck(t, []checkCase{
		{"let let ?", errand.ErrText, 4},
		{"let ? let", errand.ErrText, 4},
		{"call a(1 2?);", errand.ErrText, 9},
		{"call a(1 12345);", errand.ErrText, 9},
		{"fail;ninelette", errand.ErrText, 5},
		{"fail;; ninelette", errand.ErrText, 5},
		{"let x=(1;?", errand.ErrText, 8},
		{"else 12345", errand.ErrText, 0},
	})
}

func TestBreaksOff(t *testing.T) {
	whole := "try { call a ( ( 1 ) ) as x undo b tries 2 ; } else { if not x = 1 { let y = x ; } else { fail ; } repeat 3 { } }"
	for n := range len(whole) {
		err, place := errand.Check(whole[:n])
		if want, at := refCheck(whole[:n]); err != want || place != at {
			t.Errorf("Check(%q) = %d, %d, want %d, %d", whole[:n], err, place, want, at)
		}
		if err == errand.ErrText && place < n-6 {
			t.Errorf("Check(%q): place %d, though more could make it an errand", whole[:n], place)
		}
	}
	testCheck(t, []checkCase{
		{"call  ", errand.ErrText, 6},
		{"if true{\n\n", errand.ErrText, 10},
		{"try{}", errand.ErrText, 5},
		{"try{} ", errand.ErrText, 6},
		{"let x=1", errand.ErrText, 7},
		{"let x=(1", errand.ErrText, 8},
		{"let x=not ", errand.ErrText, 10},
		{"let x=1+", errand.ErrText, 8},
		{"call a()as", errand.ErrText, 10},
		{"repeat", errand.ErrText, 6},
		{"fail;{", errand.ErrText, 5},
	})
}

func TestSignsThatDoNotFit(t *testing.T) {
	testCheck(t, []checkCase{
		{"}", errand.ErrText, 0},
		{"fail;}", errand.ErrText, 5},
		{"x=1;", errand.ErrText, 0},
		{"1", errand.ErrText, 0},
		{"let x=1<2=3;", errand.ErrText, 9},
		{"let x=1+-2;", errand.ErrText, 8},
		{"let x=-1;", errand.ErrText, 6},
		{"let x=();", errand.ErrText, 7},
		{"let x=a(1);", errand.ErrText, 7},
		{"let x=1 not 2;", errand.ErrText, 8},
		{"let true=1;", errand.ErrText, 4},
		{"call a(1,2);", errand.ErrText, 8},
		{"call a()tries true;", errand.ErrText, 14},
		{"call a()tries(2);", errand.ErrText, 13},
		{"call a()as 1;", errand.ErrText, 11},
		{"call a()as x as y;", errand.ErrText, 13},
		{"call a()undo b();", errand.ErrText, 14},
		{"repeat x{}", errand.ErrText, 7},
		{"repeat 1;", errand.ErrText, 8},
		{"repeat 1 2{}", errand.ErrText, 9},
		{"if{}", errand.ErrText, 2},
		{"if true{}else if true{}", errand.ErrText, 14},
		{"if true{}else{}else{}", errand.ErrText, 15},
		{"if true{};", errand.ErrText, 9},
		{"try{}else{};", errand.ErrText, 11},
		{"repeat 1{}else{}", errand.ErrText, 10},
		{"fail 1;", errand.ErrText, 5},
	})
}

func TestNest(t *testing.T) {
	testCheck(t, []checkCase{
		{"let x=((((1))));", errand.OK, 0},
		{"let x=(((((1)))));", errand.ErrNest, 10},
		{"call a(((((1)))));", errand.OK, 0},
		{"call a((((((1))))));", errand.ErrNest, 11},
		{"try{}else{try{}else{try{}else{try{}else{}}}}", errand.OK, 0},
		{"try{}else{try{}else{try{}else{try{}else{try{}else{}}}}}", errand.ErrNest, 43},
		{"if((((true)))){if true{if true{if true{}}}}", errand.OK, 0},
		{"if true{if true{if true{if(true){}}}}", errand.OK, 0},
		{"if true{if true{if true{if true{if true{}}}}}", errand.ErrNest, 39},
		{"if true{if true{if true{if true{let x=(1);}}}}", errand.ErrNest, 38},
		{"repeat 1{repeat 1{repeat 1{repeat 1{call a(1);}}}}", errand.OK, 0},
		{"let x=((((1))))+((((2))))+(((((3)))));", errand.ErrNest, 30},
		{"let x=(((((1)))))+(((((2)))));", errand.ErrNest, 10},
	})
	// No depth is too deep to read.
	testCheck(t, []checkCase{
		{"let x=" + strings.Repeat("(", 146) + "1" + strings.Repeat(")", 146) + ";", errand.ErrNest, 10},
		{"let x=" + strings.Repeat("(", 294), errand.ErrText, 300},
		{"let x=" + strings.Repeat("not ", 72) + "true;", errand.OK, 0},
	})
}

func TestCount(t *testing.T) {
	testCheck(t, []checkCase{
		{"repeat 0{}repeat 9{}", errand.OK, 0},
		{"repeat 10{}", errand.ErrCount, 7},
		{"repeat  9999 {}", errand.ErrCount, 8},
		{"repeat 0009{}", errand.OK, 0},
		{"repeat 0010{}", errand.ErrCount, 7},
		{"call a()tries 1;call a()tries 5;call a()tries 0005;", errand.OK, 0},
		{"call a()tries 0;", errand.ErrCount, 14},
		{"call a()tries 0000;", errand.ErrCount, 14},
		{"call a()tries 6;", errand.ErrCount, 14},
		{"repeat 2{repeat 11{}}repeat 12{}", errand.ErrCount, 16},
	})
}

func TestName(t *testing.T) {
	testCheck(t, []checkCase{
		{"call a(a);", errand.ErrName, 7},
		{"call a()undo u;call b(u);", errand.ErrName, 22},
		{"let x=x;", errand.ErrName, 6},
		{"let x=1;let x=x+1;", errand.OK, 0},
		{"call a(x)as x;", errand.ErrName, 7},
		{"call a()as x;call a(x)as x;", errand.OK, 0},
		{"call b(x);let x=1;", errand.ErrName, 7},
		{"repeat 2{call a(x);let x=1;}", errand.ErrName, 16},
		{"if x{}", errand.ErrName, 3},
		{"let x=1+y*z;", errand.ErrName, 8},
		{"let x=not y;", errand.ErrName, 10},
	})
}

func TestType(t *testing.T) {
	testCheck(t, []checkCase{
		{"if 1{}", errand.ErrType, 3},
		{"if( 1 ){}", errand.ErrType, 2},
		{"if ((1+2)){}", errand.ErrType, 3},
		{"let x=1;if x{}", errand.ErrType, 11},
		{"call a( true);", errand.ErrType, 8},
		{"call a(((1=2)));", errand.ErrType, 7},
		{"call a(not true);", errand.ErrType, 7},
		{"let x=not 1;", errand.ErrType, 6},
		{"let x=not(1+2);", errand.ErrType, 6},
		{"let x=not not 1;", errand.ErrType, 10},
		{"let p=true;let x=p+1;", errand.ErrType, 18},
		{"let x=1-false;", errand.ErrType, 7},
		{"let x=false-1;", errand.ErrType, 11},
		{"let x=true*1;", errand.ErrType, 10},
		{"let x=1/true;", errand.ErrType, 7},
		{"let x=1<true;", errand.ErrType, 7},
		{"let x=true#1;", errand.ErrType, 10},
		{"let x=(1<2)=(3#4);let x=true#false;", errand.OK, 0},
		{"let x=(1<2)<(3<4);", errand.ErrType, 11},
		{"let x=1;let x=true;", errand.ErrType, 12},
		{"let x=true;let x=1;", errand.ErrType, 15},
		{"let x=true;call a()as x;", errand.ErrType, 22},
		{"call a()as x;let x=true;", errand.ErrType, 17},
		{"let x=true;repeat 1{let y=x;let x=x#y;}", errand.OK, 0},
		{"let x=1;let y=x;let y=true;", errand.ErrType, 20},
	})
}

// An operator's kind is what it makes, whatever its parts are.
func TestKindOfWhatIsWrong(t *testing.T) {
	testCheck(t, []checkCase{
		{"let x=1+(1+true);", errand.ErrType, 10},
		{"let x=not(1+true);", errand.ErrType, 6},
		{"let x=(true+true)*2;", errand.ErrType, 11},
		{"if 1+true{}", errand.ErrType, 3},
		{"if 1<true{}", errand.ErrType, 4},
		{"let x=1;let x=1<true;", errand.ErrType, 12},
		{"let x=true;let x=1<true;", errand.ErrType, 18},
	})
}

// A word that is given nowhere ahead is of whichever kind it must be.
func TestKindOfWhatIsNotGiven(t *testing.T) {
	testCheck(t, []checkCase{
		{"let x=true;let x=y;", errand.ErrName, 17},
		{"let x=1;let x=(y);", errand.ErrName, 15},
		{"let x=1=y;", errand.ErrName, 8},
		{"let x=true=y;", errand.ErrName, 11},
		{"let x=y=z;", errand.ErrName, 6},
		{"let x=true+y;", errand.ErrType, 10},
		{"let x=not(y+1);", errand.ErrType, 6},
		{"let x=y;let x=1;let x=true;", errand.ErrName, 6},
	})
}

// Named first, or at the first place.
func TestSeveralErrors(t *testing.T) {
	testCheck(t, []checkCase{
		{"repeat 10{}call a(x);?", errand.ErrText, 21},
		{"let x=y+true;let z=(((((1)))))", errand.ErrText, 30},
		{"let x=y+true;let z=(((((1)))));", errand.ErrNest, 23},
		{"repeat 10{repeat 10{repeat 10{repeat 10{repeat 10{}}}}}", errand.ErrNest, 49},
		{"repeat 10{call a(x);}", errand.ErrCount, 7},
		{"call a(x)tries 9;", errand.ErrName, 7},
		{"call a(true)tries 9;", errand.ErrType, 7},
		{"call a(1+true)tries 9;", errand.ErrType, 8},
		{"let x=y+true;", errand.ErrName, 6},
		{"let x=true+y;repeat 10{}", errand.ErrType, 10},
		{"let x=1;let x=y=z;", errand.ErrType, 12},
		{"if x+1{}", errand.ErrName, 3},
		{"call a(x<1);", errand.ErrName, 7},
		{"if(x+1){}", errand.ErrType, 2},
		{"call a(not x);", errand.ErrType, 7},
		{"let x=not(y+true);", errand.ErrType, 6},
	})
}

func TestCheckAgainstReference(t *testing.T) {
	seen := map[errand.Errno]int{}
	for seed := range int64(4000) {
		g := newGrower(seed, seed%4 > 0)
		text := g.errand()
		if seed%4 > 1 {
			text = g.spoil(text)
		}
		err, place := errand.Check(text)
		if want, at := refCheck(text); err != want || place != at {
			t.Errorf("Check(%q) = %d, %d, want %d, %d", text, err, place, want, at)
		}
		seen[err]++
	}
	for err := errand.OK; err <= errand.ErrType; err++ {
		if seen[err] < 20 {
			t.Errorf("only %d texts were answered %d: %v", seen[err], err, seen)
		}
	}
}
