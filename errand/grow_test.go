package errand_test

// Errands that grow by chance, the same ones at each run.

import (
	"math/rand"
	"strconv"
	"strings"
)

type grower struct {
	*rand.Rand
	text   strings.Builder
	mixed  bool // exprs of any kind anywhere, and words that are given nowhere
	firm   bool // few statements fail of themselves, and many are undone
	wholes []string
	truths []string
}

func newGrower(seed int64, mixed bool) *grower {
	return &grower{Rand: rand.New(rand.NewSource(seed)), mixed: mixed}
}

// put lays signs behind one another, with blanks where they must stand and here and there where they may.
func (g *grower) put(signs ...string) {
	for _, s := range signs {
		had := g.text.String()
		for g.Intn(6) == 0 {
			g.text.WriteString([]string{" ", "\n", "  "}[g.Intn(3)])
		}
		if g.text.Len() == len(had) && had != "" && isRow(had[len(had)-1]) && isRow(s[0]) {
			g.text.WriteString(" ")
		}
		g.text.WriteString(s)
	}
}

func isRow(c byte) bool { return 'a' <= c && c <= 'z' || '0' <= c && c <= '9' }

func (g *grower) word() string {
	return []string{"a", "b", "c", "eightlet", "ab", "lets"}[g.Intn(6)]
}

func (g *grower) number() string {
	return []string{"", "0", "00"}[g.Intn(3)] + strconv.Itoa(g.Intn(12))
}

func (g *grower) errand() string {
	for range 1 + g.Intn(5) {
		g.stmt(2)
	}
	return g.text.String()
}

func (g *grower) block(deep int) {
	g.put("{")
	for range g.Intn(3) {
		g.stmt(deep - 1)
	}
	g.put("}")
}

func (g *grower) count(most int) string {
	if g.mixed && g.Intn(3) == 0 {
		return g.number()
	}
	return strconv.Itoa(1 + g.Intn(most))
}

func (g *grower) stmt(deep int) {
	kind := g.Intn(6)
	if deep == 0 {
		kind = g.Intn(3)
	}
	if kind == 2 && g.firm && g.Intn(4) > 0 {
		kind = 1
	}
	switch kind {
	case 0:
		g.let()
	case 1:
		g.call()
	case 2:
		g.put("fail", ";")
	case 3:
		g.put("if")
		g.expr(false, 3)
		g.block(deep)
		if g.Intn(2) == 0 {
			g.put("else")
			g.block(deep)
		}
	case 4:
		g.put("try")
		g.block(deep)
		g.put("else")
		g.block(deep)
	case 5:
		g.put("repeat", g.count(9))
		g.block(deep)
	}
}

// let gives to words of two sorts, so that kinds stay apart where they must.
func (g *grower) let() {
	if g.Intn(2) == 0 {
		w := []string{"w", "x", "whole"}[g.Intn(3)]
		g.put("let", w, "=")
		g.expr(true, 3)
		g.wholes = append(g.wholes, w)
	} else {
		w := []string{"t", "u", "truth"}[g.Intn(3)]
		g.put("let", w, "=")
		g.expr(false, 3)
		g.truths = append(g.truths, w)
	}
	g.put(";")
}

func (g *grower) call() {
	g.put("call", g.word(), "(")
	if g.Intn(3) > 0 {
		g.expr(true, 3)
	}
	g.put(")")
	if g.Intn(3) == 0 {
		w := []string{"w", "x", "y"}[g.Intn(3)]
		g.put("as", w)
		g.wholes = append(g.wholes, w)
	}
	if g.Intn(3) == 0 || g.firm && g.Intn(2) == 0 {
		g.put("undo", g.word())
	}
	if g.Intn(3) == 0 {
		g.put("tries", g.count(5))
	}
	g.put(";")
}

// expr lays an expr in brackets, most of which are needless: they may stand round every part.
func (g *grower) expr(whole bool, deep int) {
	if g.mixed && g.Intn(8) == 0 {
		whole = !whole
	}
	brackets := deep > 0 && deep < 3 && g.Intn(4) > 0
	if deep > 0 && (brackets || deep == 3) && g.Intn(4) > 0 {
		if brackets {
			g.put("(")
		}
		g.pair(whole, deep)
		if brackets {
			g.put(")")
		}
		return
	}
	g.leaf(whole)
}

func (g *grower) pair(whole bool, deep int) {
	if whole {
		g.expr(true, deep-1)
		for range 1 + g.Intn(2) {
			g.put([]string{"+", "-", "*", "/"}[g.Intn(4)])
			g.expr(true, deep-1)
		}
		return
	}
	op := []string{"<", "=", "#", "not"}[g.Intn(4)]
	if op == "not" {
		g.put("not")
		g.put("(")
		g.expr(false, deep-1)
		g.put(")")
		return
	}
	parts := op == "<" || g.Intn(2) == 0
	g.expr(parts, deep-1)
	g.put(op)
	g.expr(parts, deep-1)
}

func (g *grower) leaf(whole bool) {
	words := g.truths
	if whole {
		words = g.wholes
	}
	switch {
	case g.mixed && g.Intn(20) == 0:
		g.put(g.word())
	case len(words) > 0 && g.Intn(2) == 0:
		g.put(words[g.Intn(len(words))])
	case whole:
		g.put(g.number())
	case g.Intn(3) == 0:
		g.put("not", "true")
	default:
		g.put([]string{"true", "false"}[g.Intn(2)])
	}
}

// spoil changes a text a little: it breaks off, loses or gains something, or has two parts in each other's place.
func (g *grower) spoil(text string) string {
	signs := strings.Fields("let call as undo tries if else try repeat fail true false not ; = ( ) { } < # + - * / a ninelette 7 12345 \t A \xff \x00 é")
	for range 1 + g.Intn(2) {
		at := g.Intn(len(text) + 1)
		to := min(len(text), at+g.Intn(6))
		switch g.Intn(4) {
		case 0:
			text = text[:at]
		case 1:
			text = text[:at] + text[to:]
		case 2:
			text = text[:at] + " " + signs[g.Intn(len(signs))] + " " + text[at:]
		case 3:
			text = text[:at] + string(rune(32+g.Intn(96))) + text[to:]
		}
	}
	return text
}
