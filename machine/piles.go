package machine

// piles holds what undoes the deeds so far. The piles stand one on the other in one list, so that a pile is laid onto the one before by forgetting where it began.
type piles struct {
	undos []undo
	begun []pile // those that a try began and that are not left
}

// undo is a word and the number to ask it with.
type undo struct {
	word   int
	number int64
}

// pile tells where the pile of a try begins, and how things are brought back to where the try stood.
type pile struct {
	floor  int // how many undos are below it
	height int // of the stack
	second int // the place of what is done then
}

func (p *piles) lay(word int, number int64) { p.undos = append(p.undos, undo{word, number}) }

func (p *piles) begin(height, second int) {
	p.begun = append(p.begun, pile{len(p.undos), height, second})
}

// leave forgets where the pile at hand began; false: it is the errand's own.
func (p *piles) leave() (pile, bool) {
	last := len(p.begun) - 1
	if last < 0 {
		return pile{}, false
	}
	left := p.begun[last]
	p.begun = p.begun[:last]
	return left, true
}

// next answers what is to be undone first of the pile at hand; false: nothing is left of it.
func (p *piles) next() (undo, bool) {
	floor := 0
	if len(p.begun) > 0 {
		floor = p.begun[len(p.begun)-1].floor
	}
	if len(p.undos) == floor {
		return undo{}, false
	}
	return p.undos[len(p.undos)-1], true
}

func (p *piles) takeOff() { p.undos = p.undos[:len(p.undos)-1] }
