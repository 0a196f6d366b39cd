package errand_test

// A second way to do an errand, straight from its signs (what fails is thrown, numbers are long and cut), to hold Run and Exec against.

import (
	"math/big"

	"errand/errand"
)

type refUndo struct {
	word   string
	number int
}

type refFails struct{}

type refEnds struct{ end int }

type refRunner struct {
	holds   map[string]*big.Int
	answers []int
	asks    []errand.Ask
	pile    []refUndo
}

// refRun answers what Run must, for a text that is an errand.
func refRun(text string, answers []int) ([]errand.Ask, int) {
	r := &refRunner{holds: map[string]*big.Int{}, answers: answers}
	end := r.run(text)
	return r.asks, end
}

// refValues answers what each variable of an errand holds behind answers.
func refValues(text string, answers []int) map[string]int {
	r := &refRunner{holds: map[string]*big.Int{}, answers: answers}
	r.run(text)
	values := map[string]int{}
	signs, _ := refSigns(text)
	for i, s := range signs {
		if s.text == "let" || s.text == "as" {
			values[signs[i+1].text] = 0
		}
	}
	for word, n := range r.holds {
		values[word] = int(n.Int64())
	}
	return values
}

func (r *refRunner) run(text string) (end int) {
	signs, _ := refSigns(text)
	defer func() {
		if thrown := recover(); thrown != nil {
			end = thrown.(refEnds).end
		}
	}()
	if !r.holdsOut(signs) {
		r.undoPile()
		return errand.Undone
	}
	return errand.Done
}

// holdsOut does statements; false: something fails.
func (r *refRunner) holdsOut(signs []refSign) (ok bool) {
	defer func() {
		switch thrown := recover().(type) {
		case nil:
			ok = true
		case refFails:
		default:
			panic(thrown)
		}
	}()
	r.do(signs)
	return
}

func (r *refRunner) do(signs []refSign) {
	for len(signs) > 0 {
		switch signs[0].text {
		case "fail":
			panic(refFails{})
		case "let":
			expr := exprFrom(signs[3:])
			r.holds[signs[1].text] = r.worth(expr)
			signs = signs[4+len(expr):]
		case "call":
			signs = r.call(signs[1:])
		case "if":
			cond := exprFrom(signs[1:])
			first, second, rest := blocks(signs[1+len(cond):])
			if r.worth(cond).Sign() == 0 {
				first = second
			}
			r.do(first)
			signs = rest
		case "try":
			first, second, rest := blocks(signs[1:])
			r.try(first, second)
			signs = rest
		case "repeat":
			first, _, rest := blocks(signs[2:])
			for range int(r.worth(signs[1:2]).Int64()) {
				r.do(first)
			}
			signs = rest
		}
	}
}

// blocks answers what stands in the block at the front, in that behind an else, if there is one, and what follows.
func blocks(signs []refSign) (first, second, rest []refSign) {
	first, rest = inBrackets(signs)
	if len(rest) > 0 && rest[0].text == "else" {
		second, rest = inBrackets(rest[1:])
	}
	return
}

func inBrackets(signs []refSign) (inner, rest []refSign) {
	deep := 0
	for i, s := range signs {
		switch s.text {
		case "{":
			deep++
		case "}":
			deep--
		}
		if deep == 0 {
			return signs[1:i], signs[i+1:]
		}
	}
	panic("no bracket closes it")
}

func (r *refRunner) try(first, second []refSign) {
	before := r.pile
	r.pile = nil
	ok := r.holdsOut(first)
	if !ok {
		r.undoPile()
	}
	r.pile = append(before, r.pile...)
	if !ok {
		r.do(second)
	}
}

func (r *refRunner) undoPile() {
	for len(r.pile) > 0 {
		last := r.pile[len(r.pile)-1]
		if r.asked(errand.Ask{Word: last.word, Arg: last.number, Undo: true}, 3) < 0 {
			panic(refEnds{errand.Stuck})
		}
		r.pile = r.pile[:len(r.pile)-1]
	}
}

// asked asks at most so many times, and answers the last answer.
func (r *refRunner) asked(a errand.Ask, most int) int {
	for {
		a.Try++
		r.asks = append(r.asks, a)
		if len(r.answers) == 0 {
			panic(refEnds{errand.Waits})
		}
		answer := r.answers[0]
		r.answers = r.answers[1:]
		if answer >= 0 || a.Try == most {
			return answer
		}
	}
}

// call does a call, and answers what stands behind it.
func (r *refRunner) call(signs []refSign) []refSign {
	a := errand.Ask{Word: signs[0].text}
	arg := exprFrom(signs[2:])
	if len(arg) > 0 {
		a.Arg = int(r.worth(arg).Int64())
	}
	signs = signs[3+len(arg):]
	as, undo, tries := "", "", 1
	for ; signs[0].text != ";"; signs = signs[2:] {
		switch signs[0].text {
		case "as":
			as = signs[1].text
		case "undo":
			undo = signs[1].text
		case "tries":
			tries = int(r.worth(signs[1:2]).Int64())
		}
	}
	answer := r.asked(a, tries)
	if answer < 0 {
		panic(refFails{})
	}
	if as != "" {
		r.holds[as] = big.NewInt(int64(answer))
	}
	if undo != "" {
		r.pile = append(r.pile, refUndo{undo, answer})
	}
	return signs[1:]
}

// worth answers what an expr makes; a truth is 0 or 1.
func (r *refRunner) worth(expr []refSign) *big.Int {
	if i := cut(expr); i >= 0 {
		left := r.worth(expr[:i])
		return worthOf(expr[i].text, left, r.worth(expr[i+1:]))
	}
	switch expr[0].class() {
	case "number":
		n, _ := new(big.Int).SetString(expr[0].text, 10)
		return n
	case "true":
		return big.NewInt(1)
	case "false":
		return new(big.Int)
	case "not":
		return new(big.Int).Sub(big.NewInt(1), r.worth(expr[1:]))
	case "(":
		return r.worth(expr[1 : len(expr)-1])
	}
	if n, given := r.holds[expr[0].text]; given {
		return n
	}
	return new(big.Int)
}

func worthOf(operator string, left, right *big.Int) *big.Int {
	n := new(big.Int)
	order := left.Cmp(right)
	switch operator {
	case "+":
		n.Add(left, right)
	case "-":
		n.Sub(left, right)
	case "*":
		n.Mul(left, right)
	case "/":
		if right.Sign() == 0 {
			panic(refFails{})
		}
		n.Quo(left, right)
	}
	if operator == "<" && order < 0 || operator == "=" && order == 0 || operator == "#" && order != 0 {
		n.SetInt64(1)
	}
	return wrapped(n)
}

// wrapped answers the number of 64 bits that ends alike.
func wrapped(n *big.Int) *big.Int {
	round := new(big.Int).Lsh(big.NewInt(1), 64)
	n.Mod(n, round)
	if n.Bit(63) == 1 {
		n.Sub(n, round)
	}
	return n
}
