package lang

import "strconv"

// Print writes an errand in as few signs as can be said.
func Print(errand Block) string {
	w := &writer{}
	w.stmts(errand)
	return string(w.text)
}

type writer struct {
	text []byte
}

// put lays signs behind one another; words and numbers would run together without a blank.
func (w *writer) put(signs ...string) {
	for _, s := range signs {
		if n := len(w.text); n > 0 && inRow(w.text[n-1]) && inRow(s[0]) {
			w.text = append(w.text, ' ')
		}
		w.text = append(w.text, s...)
	}
}

func inRow(c byte) bool { return isLetter(c) || isDigit(c) }

func (w *writer) stmts(b Block) {
	for _, s := range b {
		s.write(w)
	}
}

func (w *writer) block(b Block) {
	w.put("{")
	w.stmts(b)
	w.put("}")
}

// part writes an expr where one of at least that level must stand.
func (w *writer) part(x Expr, least int) {
	if levelOf(x) >= least {
		x.write(w)
		return
	}
	w.put("(")
	x.write(w)
	w.put(")")
}

func levelOf(x Expr) int {
	switch x := x.(type) {
	case *Pair:
		return ops[x.Op].level
	default:
		return levelAtom
	}
}

func (x *Number) write(w *writer) { w.put(strconv.Itoa(x.Value)) }

func (x *Truth) write(w *writer) { w.put(strconv.FormatBool(x.Value)) }

func (x *Variable) write(w *writer) { w.put(x.Word) }

func (x *Not) write(w *writer) {
	w.put("not")
	w.part(x.Part, levelAtom)
}

func (x *Pair) write(w *writer) {
	o := ops[x.Op]
	left := o.level
	if left == levelCompare { // only one of these may stand in a row
		left = levelSum
	}
	w.part(x.Left, left)
	w.put(o.text)
	w.part(x.Right, o.level+1)
}

func (s *Let) write(w *writer) {
	w.put("let", s.To.Word, "=")
	s.Value.write(w)
	w.put(";")
}

func (s *Call) write(w *writer) {
	w.put("call", s.Word, "(")
	if s.Arg != nil {
		s.Arg.Expr.write(w)
	}
	w.put(")")
	if s.As != nil {
		w.put("as", s.As.Word)
	}
	if s.Undo != "" {
		w.put("undo", s.Undo)
	}
	if s.Tries.Value != 1 {
		w.put("tries")
		s.Tries.write(w)
	}
	w.put(";")
}

func (s *If) write(w *writer) {
	w.put("if")
	s.Cond.Expr.write(w)
	w.block(s.Then)
	if len(s.Else) > 0 {
		w.put("else")
		w.block(s.Else)
	}
}

func (s *Try) write(w *writer) {
	w.put("try")
	w.block(s.First)
	w.put("else")
	w.block(s.Second)
}

func (s *Repeat) write(w *writer) {
	w.put("repeat")
	s.Count.write(w)
	w.block(s.Body)
}

func (s *Fail) write(w *writer) { w.put("fail", ";") }
