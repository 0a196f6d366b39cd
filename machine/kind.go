package machine

// kind is the sort of an instruction.
type kind int

const (
	kindPush     kind = iota // a number comes onto the stack
	kindLoad                 // what a variable holds comes onto the stack
	kindStore                // the top of the stack goes into a variable
	kindDrop                 // the top of the stack goes away
	kindAdd                  // this and the next six: two from the stack become one
	kindSubtract             // the upper one from the lower one
	kindMultiply             //
	kindDivide               // the lower one by the upper one; fails by 0
	kindLess                 // whether the lower one is less
	kindSame                 //
	kindDiffer               //
	kindNot                  // the top of the stack becomes its contrary
	kindJump                 // goes on at a place
	kindUnless               // takes the top of the stack, and goes on at a place if that is false
	kindAgain                // counts the top of the stack down; at 0 it takes it, and goes on at a place
	kindTry                  // begins a pile; at a place stands what is done if something fails
	kindKeep                 // lays that pile onto the one before, and goes on at a place
	kindFail                 //
	kindAsk                  // asks a word with the top of the stack, which becomes the answer
	kindLay                  // lays a word and the top of the stack, which stays, onto the pile at hand
	kindCount                // how many kinds there are
)

// operand is what sort of number stands behind a kind in code.
type operand int

const (
	plain operand = iota
	ofVariable
	ofWord
	ofPlace
)

// meaning tells of a kind what stands behind it, how many it takes from the stack and gives to it, and what it does.
type meaning struct {
	needs        []operand
	takes, gives int
	do           func(m *Machine, i instruction) error
}

// meanings is the table of all kinds. (A function, since at package level no table of functions may stand.)
func meanings() [kindCount]meaning {
	return [kindCount]meaning{
		kindPush:     {[]operand{plain}, 0, 1, func(m *Machine, i instruction) error { m.push(int64(i.operands[0])); return nil }},
		kindLoad:     {[]operand{ofVariable}, 0, 1, func(m *Machine, i instruction) error { m.push(m.variables[i.operands[0]]); return nil }},
		kindStore:    {[]operand{ofVariable}, 1, 0, func(m *Machine, i instruction) error { m.variables[i.operands[0]] = m.pop(); return nil }},
		kindDrop:     {nil, 1, 0, func(m *Machine, _ instruction) error { m.pop(); return nil }},
		kindAdd:      pair(func(left, right int64) int64 { return left + right }),
		kindSubtract: pair(func(left, right int64) int64 { return left - right }),
		kindMultiply: pair(func(left, right int64) int64 { return left * right }),
		kindDivide:   {nil, 2, 1, func(m *Machine, _ instruction) error { return m.divide() }},
		kindLess:     pair(func(left, right int64) int64 { return truth(left < right) }),
		kindSame:     pair(func(left, right int64) int64 { return truth(left == right) }),
		kindDiffer:   pair(func(left, right int64) int64 { return truth(left != right) }),
		kindNot:      {nil, 1, 1, func(m *Machine, _ instruction) error { m.push(truth(m.pop() == 0)); return nil }},
		kindJump:     {[]operand{ofPlace}, 0, 0, func(m *Machine, i instruction) error { m.place = i.operands[0]; return nil }},
		kindUnless:   {[]operand{ofPlace}, 1, 0, func(m *Machine, i instruction) error { m.unless(i.operands[0]); return nil }},
		kindAgain:    {[]operand{ofPlace}, 1, 1, func(m *Machine, i instruction) error { m.again(i.operands[0]); return nil }},
		kindTry:      {[]operand{ofPlace}, 0, 0, func(m *Machine, i instruction) error { m.begin(m.height(), i.operands[0]); return nil }},
		kindKeep:     {[]operand{ofPlace}, 0, 0, func(m *Machine, i instruction) error { m.leave(); m.place = i.operands[0]; return nil }},
		kindFail:     {nil, 0, 0, func(*Machine, instruction) error { return errFails }},
		kindAsk:      {[]operand{ofWord, plain}, 1, 1, func(m *Machine, i instruction) error { return m.call(i.operands[0], i.operands[1]) }},
		kindLay:      {[]operand{ofWord}, 1, 1, func(m *Machine, i instruction) error { m.lay(i.operands[0], m.top()); return nil }},
	}
}

// pair is the meaning of a kind that makes one of two and can't fail.
func pair(joined func(left, right int64) int64) meaning {
	return meaning{nil, 2, 1, func(m *Machine, _ instruction) error {
		right := m.pop()
		m.push(joined(m.pop(), right))
		return nil
	}}
}

// A kind without a row would be found only by the errand that comes upon it: so each start looks at all of them.
func init() {
	for _, row := range meanings() {
		if row.do == nil {
			panic("machine: a kind of instruction has no meaning")
		}
	}
}

func truth(is bool) int64 {
	if is {
		return 1
	}
	return 0
}
