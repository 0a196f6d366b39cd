package errand_test

// A second reading of the language, made another way than the program's (a chart over the document's grammar, and exprs cut at their loosest operator), to hold the program against.

import (
	"regexp"
	"slices"
	"strconv"
	"strings"

	"errand/errand"
)

type refSign struct {
	text  string
	place int
}

// class is how the grammar below names the sign.
func (s refSign) class() string {
	switch {
	case slices.Contains(keptWords, s.text) || strings.Contains(";=(){}<#+-*/", s.text):
		return s.text
	case s.text[0] >= 'a':
		return "word"
	}
	return "number"
}

var keptWords = strings.Fields("let call as undo tries if else try repeat fail true false not")

var signShape = regexp.MustCompile(`^(?:[a-z]+|[0-9]+|[;=(){}<#+*/-])`)

// refSigns answers the signs up to the end or the first byte that begins none, and where that is (-1: nowhere).
func refSigns(text string) ([]refSign, int) {
	var signs []refSign
	for at := 0; ; {
		at = len(text) - len(strings.TrimLeft(text[at:], " \n"))
		if at == len(text) {
			return signs, -1
		}
		s := refSign{signShape.FindString(text[at:]), at}
		if s.text == "" || s.class() == "word" && len(s.text) > 8 || s.class() == "number" && len(s.text) > 4 {
			return signs, at
		}
		signs = append(signs, s)
		at += len(s.text)
	}
}

var grammar = split(map[string][]string{
	"errand":  {"", "errand stmt"},
	"stmt":    {"let word = expr ;", "call word ( given ) taking undoing trying ;", "if expr block", "if expr block else block", "try block else block", "repeat number block", "fail ;"},
	"given":   {"", "expr"},
	"taking":  {"", "as word"},
	"undoing": {"", "undo word"},
	"trying":  {"", "tries number"},
	"block":   {"{ errand }"},
	"expr":    {"sum", "sum < sum", "sum = sum", "sum # sum"},
	"sum":     {"term", "sum + term", "sum - term"},
	"term":    {"atom", "term * atom", "term / atom"},
	"atom":    {"number", "true", "false", "word", "not atom", "( expr )"},
})

func split(rules map[string][]string) map[string][][]string {
	out := map[string][][]string{}
	for name, ways := range rules {
		for _, way := range ways {
			out[name] = append(out[name], strings.Fields(way))
		}
	}
	return out
}

type chartItem struct {
	rule           string
	way, dot, from int
}

func (i chartItem) next() string {
	if parts := grammar[i.rule][i.way]; i.dot < len(parts) {
		return parts[i.dot]
	}
	return ""
}

// fill adds to the last set of a chart what follows from it.
func fill(chart [][]chartItem) {
	last := len(chart) - 1
	add := func(i chartItem) bool {
		if slices.Contains(chart[last], i) {
			return false
		}
		chart[last] = append(chart[last], i)
		return true
	}
	for grown := true; grown; {
		grown = false
		for k := 0; k < len(chart[last]); k++ {
			item := chart[last][k]
			want := item.next()
			for way := range grammar[want] {
				grown = add(chartItem{want, way, 0, last}) || grown
			}
			if want != "" {
				continue
			}
			for _, w := range chart[item.from] {
				if w.next() == item.rule {
					w.dot++
					grown = add(w) || grown
				}
			}
		}
	}
}

// refTextFault answers the place of ErrText, or -1.
func refTextFault(text string) int {
	signs, bad := refSigns(text)
	chart := [][]chartItem{{}}
	for way := range grammar["errand"] {
		chart[0] = append(chart[0], chartItem{"errand", way, 0, 0})
	}
	fill(chart)
	for _, s := range signs {
		var next []chartItem
		for _, i := range chart[len(chart)-1] {
			if i.next() == s.class() {
				i.dot++
				next = append(next, i)
			}
		}
		if next == nil {
			return s.place
		}
		chart = append(chart, next)
		fill(chart)
	}
	if bad >= 0 {
		return bad
	}
	for _, i := range chart[len(chart)-1] {
		if i.rule == "errand" && i.from == 0 && i.next() == "" {
			return -1
		}
	}
	return len(text)
}

// refNestFault answers the place of ErrNest, or -1.
func refNestFault(signs []refSign) int {
	depth := 0
	var opened []int
	for i, s := range signs {
		switch s.text {
		case "(", "{":
			weight := 1
			if s.text == "(" && i > 1 && signs[i-2].text == "call" {
				weight = 0
			}
			opened = append(opened, weight)
			depth += weight
			if depth > 4 {
				return s.place
			}
		case ")", "}":
			depth -= opened[len(opened)-1]
			opened = opened[:len(opened)-1]
		}
	}
	return -1
}

type refFault struct {
	place int
	err   errand.Errno
}

type refChecker struct {
	kinds  map[string]string
	faults []refFault
}

// cut answers where an expr's loosest operator stands, or -1.
func cut(expr []refSign) int {
	for _, level := range []string{"<=#", "+-", "*/"} {
		depth := 0
		for i := len(expr) - 1; i > 0; i-- {
			switch s := expr[i].text; {
			case s == ")":
				depth++
			case s == "(":
				depth--
			case depth == 0 && strings.Contains(level, s):
				return i
			}
		}
	}
	return -1
}

func (c *refChecker) kind(expr []refSign) string {
	fault := func(place int, err errand.Errno) { c.faults = append(c.faults, refFault{place, err}) }
	if i := cut(expr); i >= 0 {
		left, right := c.kind(expr[:i]), c.kind(expr[i+1:])
		alike := strings.Contains("=#", expr[i].text)
		if alike && left+right == "wholetruth" || alike && left+right == "truthwhole" || !alike && (left == "truth" || right == "truth") {
			fault(expr[i].place, errand.ErrType)
		}
		if strings.Contains("<=#", expr[i].text) {
			return "truth"
		}
		return "whole"
	}
	switch first := expr[0]; first.class() {
	case "number":
		return "whole"
	case "true", "false":
		return "truth"
	case "not":
		if c.kind(expr[1:]) == "whole" {
			fault(first.place, errand.ErrType)
		}
		return "truth"
	case "(":
		return c.kind(expr[1 : len(expr)-1])
	default:
		if _, given := c.kinds[first.text]; !given {
			fault(first.place, errand.ErrName)
		}
		return c.kinds[first.text]
	}
}

func (c *refChecker) give(word refSign, kind string) {
	had, given := c.kinds[word.text]
	if !given {
		c.kinds[word.text] = kind
	} else if had != "" && kind != "" && had != kind {
		c.faults = append(c.faults, refFault{word.place, errand.ErrType})
	}
}

// exprFrom answers the expr that begins behind a sign: up to the sign that can't be its own.
func exprFrom(signs []refSign) []refSign {
	depth := 0
	for i, s := range signs {
		switch s.text {
		case "(":
			depth++
		case ")":
			depth--
		}
		if depth < 0 || s.text == ";" || s.text == "{" {
			return signs[:i]
		}
	}
	return signs
}

func (c *refChecker) must(expr []refSign, kind string) {
	if got := c.kind(expr); got != "" && got != kind {
		c.faults = append(c.faults, refFault{expr[0].place, errand.ErrType})
	}
}

func (c *refChecker) look(signs []refSign) {
	for i, s := range signs {
		rest := signs[i+1:]
		switch s.text {
		case "let":
			c.give(rest[0], c.kind(exprFrom(rest[2:])))
		case "call":
			if arg := exprFrom(rest[2:]); len(arg) > 0 {
				c.must(arg, "whole")
			}
		case "as":
			c.give(rest[0], "whole")
		case "if":
			c.must(exprFrom(rest), "truth")
		case "repeat", "tries":
			n, _ := strconv.Atoi(rest[0].text)
			if s.text == "repeat" && n > 9 || s.text == "tries" && (n < 1 || n > 5) {
				c.faults = append(c.faults, refFault{rest[0].place, errand.ErrCount})
			}
		}
	}
}

// refCheck answers what Check must.
func refCheck(text string) (errand.Errno, int) {
	if len(text) > 300 {
		return errand.ErrLong, 0
	}
	if at := refTextFault(text); at >= 0 {
		return errand.ErrText, at
	}
	signs, _ := refSigns(text)
	if at := refNestFault(signs); at >= 0 {
		return errand.ErrNest, at
	}
	c := &refChecker{kinds: map[string]string{}}
	c.look(signs)
	if len(c.faults) == 0 {
		return errand.OK, 0
	}
	first := slices.MinFunc(c.faults, func(a, b refFault) int {
		if a.place != b.place {
			return a.place - b.place
		}
		return int(a.err - b.err)
	})
	return first.err, first.place
}

// refShape answers how an expr is read: with brackets round everything.
func refShape(expr []refSign) string {
	if i := cut(expr); i >= 0 {
		return "(" + refShape(expr[:i]) + expr[i].text + refShape(expr[i+1:]) + ")"
	}
	switch expr[0].class() {
	case "not":
		return "(not " + refShape(expr[1:]) + ")"
	case "(":
		return refShape(expr[1 : len(expr)-1])
	case "number":
		n, _ := strconv.Atoi(expr[0].text)
		return strconv.Itoa(n)
	}
	return expr[0].text
}

// refReading answers how statements are read, up to the end or the bracket that closes them, and what stands from there on. What need not be said is left out.
func refReading(signs []refSign) (string, []refSign) {
	out := ""
	for len(signs) > 0 && signs[0].text != "}" {
		var stmt string
		switch signs[0].text {
		case "if":
			cond := exprFrom(signs[1:])
			stmt, signs = refBlock(signs[1+len(cond):])
			stmt = "if " + refShape(cond) + stmt
			if len(signs) > 0 && signs[0].text == "else" {
				var other string
				if other, signs = refBlock(signs[1:]); other != "{}" {
					stmt += "else" + other
				}
			}
		case "try":
			var other string
			stmt, signs = refBlock(signs[1:])
			other, signs = refBlock(signs[1:])
			stmt = "try" + stmt + "else" + other
		case "repeat":
			count := refShape(signs[1:2])
			stmt, signs = refBlock(signs[2:])
			stmt = "repeat " + count + stmt
		default:
			stmt, signs = refPlain(signs)
		}
		out += stmt
	}
	return out, signs
}

func refBlock(signs []refSign) (string, []refSign) {
	inner, signs := refReading(signs[1:])
	return "{" + inner + "}", signs[1:]
}

// refPlain reads a statement that has no block.
func refPlain(signs []refSign) (string, []refSign) {
	out := ""
	for signs[0].text != ";" {
		length := 1
		switch s := signs[0].text; s {
		case "=", "(":
			expr := exprFrom(signs[1:])
			length += len(expr)
			out += s
			if len(expr) > 0 {
				out += refShape(expr)
			}
		case "tries":
			length++
			if count := refShape(signs[1:2]); count != "1" {
				out += " tries " + count
			}
		default:
			out += " " + s
		}
		signs = signs[length:]
	}
	return out + ";", signs[1:]
}
