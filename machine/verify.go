package machine

// state is what is known of the machine ahead of an instruction, whichever way led there.
type state struct {
	known  bool
	height int // of the stack
	try    int // the instruction that began the pile at hand; noTry: none did
}

const noTry = -1

// verifier goes once over a program from the front. Whatever can be reached must have been reached from further ahead, in one state alone.
type verifier struct {
	program *Program
	table   [kindCount]meaning
	states  []state // of each instruction, and of the end
}

func (p *Program) verify() error {
	v := &verifier{p, meanings(), make([]state, len(p.list)+1)}
	atRest := state{known: true, try: noTry}
	v.states[0] = atRest
	for at, i := range p.list {
		if why := v.look(at, i); why != "" {
			return &Flaw{at, why}
		}
	}
	if end := v.states[len(p.list)]; end.known && end != atRest {
		return &Flaw{len(p.list), "it ends in the midst of something"}
	}
	return nil
}

// look answers what is wrong with an instruction: empty, if nothing is.
func (v *verifier) look(at int, i instruction) string {
	row, now := v.table[i.kind], v.states[at]
	floor := v.floor(now)
	switch {
	case !now.known:
		return "nothing leads there"
	case !v.operandsFit(i, row.needs):
		return "an operand that stands for nothing"
	case now.height-row.takes < floor:
		return "it takes what is not there"
	case i.kind == kindKeep && (now.try == noTry || now.height != floor):
		return "no try ends there"
	case !v.lead(at, i, row, now):
		return "two ways lead to one place"
	}
	return ""
}

// floor answers how high the stack stays till the try at hand has ended.
func (v *verifier) floor(now state) int {
	if now.try == noTry {
		return 0
	}
	return v.states[now.try].height
}

func (v *verifier) operandsFit(i instruction, needs []operand) bool {
	for n, sort := range needs {
		below := i.operands[n] + 1
		switch sort {
		case ofVariable:
			below = v.program.variables
		case ofWord:
			below = len(v.program.words)
		case ofPlace:
			below = len(v.states)
		}
		if i.operands[n] >= below {
			return false
		}
	}
	return true
}

// lead notes where an instruction may lead, and in which state.
func (v *verifier) lead(at int, i instruction, row meaning, now state) bool {
	place := i.operands[0]
	next := now
	next.height += row.gives - row.takes
	switch i.kind {
	case kindJump:
		return v.reach(place, next)
	case kindUnless:
		return v.reach(place, next) && v.reach(at+1, next)
	case kindAgain:
		counted := next
		counted.height--
		return v.reach(place, counted) && v.reach(at+1, next)
	case kindTry:
		next.try = at
		return v.reach(place, now) && v.reach(at+1, next)
	case kindKeep:
		return v.reach(place, v.states[now.try])
	}
	return v.reach(at+1, next)
}

func (v *verifier) reach(place int, s state) bool {
	if !v.states[place].known {
		v.states[place] = s
	}
	return v.states[place] == s
}
