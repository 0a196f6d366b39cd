package machine

import (
	"slices"
	"strings"

	"errand/lang"
)

// maker lays instructions behind one another.
type maker struct {
	list      []instruction
	words     []string
	variables []string
}

// Make makes a program of an errand that was read.
func Make(errand lang.Block) *Program {
	m := &maker{}
	m.block(errand)
	return &Program{m.words, len(m.variables), m.variables, m.list}
}

func (m *maker) put(k kind, operands ...int) {
	i := instruction{kind: k}
	copy(i.operands[:], operands)
	m.list = append(m.list, i)
}

// putOpen lays an instruction whose place is not known yet, and answers where it stands.
func (m *maker) putOpen(k kind) int {
	m.put(k)
	return m.here() - 1
}

// land lets an instruction go on at what is laid next.
func (m *maker) land(at int) { m.list[at].operands[0] = m.here() }

func (m *maker) here() int { return len(m.list) }

func (m *maker) word(w string) int     { return number(&m.words, w) }
func (m *maker) variable(w string) int { return number(&m.variables, w) }

// number answers which one of a list it is; one that is new comes behind the others. What is kept is a copy, so that no answer shares memory with the text.
func number(list *[]string, w string) int {
	if i := slices.Index(*list, w); i >= 0 {
		return i
	}
	*list = append(*list, strings.Clone(w))
	return len(*list) - 1
}

func (m *maker) block(b lang.Block) {
	for _, s := range b {
		m.stmt(s)
	}
}

func (m *maker) stmt(s lang.Stmt) {
	switch s := s.(type) {
	case *lang.Let:
		m.expr(s.Value)
		m.put(kindStore, m.variable(s.To.Word))
	case *lang.Call:
		m.call(s)
	case *lang.If:
		m.choice(s)
	case *lang.Try:
		m.try(s)
	case *lang.Repeat:
		m.repeat(s)
	case *lang.Fail:
		m.put(kindFail)
	}
}

func (m *maker) call(s *lang.Call) {
	if s.Arg != nil {
		m.expr(s.Arg.Expr)
	} else {
		m.put(kindPush, 0)
	}
	m.put(kindAsk, m.word(s.Word), s.Tries.Value)
	if s.Undo != "" {
		m.put(kindLay, m.word(s.Undo))
	}
	if s.As != nil {
		m.put(kindStore, m.variable(s.As.Word))
	} else {
		m.put(kindDrop)
	}
}

func (m *maker) choice(s *lang.If) {
	m.expr(s.Cond.Expr)
	unless := m.putOpen(kindUnless)
	m.block(s.Then)
	if len(s.Else) > 0 {
		past := m.putOpen(kindJump)
		m.land(unless)
		unless = past
		m.block(s.Else)
	}
	m.land(unless)
}

func (m *maker) try(s *lang.Try) {
	try := m.putOpen(kindTry)
	m.block(s.First)
	keep := m.putOpen(kindKeep)
	m.land(try)
	m.block(s.Second)
	m.land(keep)
}

func (m *maker) repeat(s *lang.Repeat) {
	m.put(kindPush, s.Count.Value)
	again := m.putOpen(kindAgain)
	m.block(s.Body)
	m.put(kindJump, again)
	m.land(again)
}

func (m *maker) expr(x lang.Expr) {
	switch x := x.(type) {
	case *lang.Number:
		m.put(kindPush, x.Value)
	case *lang.Truth:
		m.put(kindPush, int(truth(x.Value)))
	case *lang.Variable:
		m.put(kindLoad, m.variable(x.Word))
	case *lang.Not:
		m.expr(x.Part)
		m.put(kindNot)
	case *lang.Pair:
		m.expr(x.Left)
		m.expr(x.Right)
		m.put(kindOf[x.Op])
	}
}

var kindOf = [...]kind{
	lang.Add:      kindAdd,
	lang.Subtract: kindSubtract,
	lang.Multiply: kindMultiply,
	lang.Divide:   kindDivide,
	lang.Less:     kindLess,
	lang.Same:     kindSame,
	lang.Differ:   kindDiffer,
}
