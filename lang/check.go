package lang

const (
	maxRepeat = 9
	maxTries  = 5
)

// checker goes over a tree that is an errand, and keeps the fault with the first place.
type checker struct {
	kinds map[string]Kind // of the variables that are given so far
	fault *Fault
}

func checkBlock(errand Block) error {
	c := &checker{kinds: map[string]Kind{}}
	c.block(errand)
	if c.fault != nil {
		return c.fault
	}
	return nil
}

// note keeps the fault that was noted first where two have one place: parts are looked at ahead of the whole, and so a word that is not given goes ahead of the kind of the expr that it begins, as the document names them.
func (c *checker) note(place int, err error) {
	if c.fault == nil || place < c.fault.Place {
		c.fault = &Fault{place, err}
	}
}

func (c *checker) block(b Block) {
	for _, s := range b {
		s.check(c)
	}
}

func (c *checker) count(n *Number, least, most int) {
	if n.Value < least || n.Value > most {
		c.note(n.Place, ErrCount)
	}
}

func (c *checker) give(to *Variable, kind Kind) {
	had, given := c.kinds[to.Word]
	if !given {
		c.kinds[to.Word] = kind
	} else if !fits(had, kind) {
		c.note(to.Place, ErrType)
	}
}

func (c *checker) root(x *Root, must Kind) {
	if !fits(x.Expr.kind(c), must) {
		c.note(x.Place, ErrType)
	}
}

func fits(a, b Kind) bool { return a == b || a == AnyKind || b == AnyKind }

func (x *Number) kind(*checker) Kind { return WholeKind }

func (x *Truth) kind(*checker) Kind { return TruthKind }

func (x *Variable) kind(c *checker) Kind {
	kind, given := c.kinds[x.Word]
	if !given {
		c.note(x.Place, ErrName)
		return AnyKind
	}
	return kind
}

func (x *Not) kind(c *checker) Kind {
	if !fits(x.Part.kind(c), TruthKind) {
		c.note(x.Place, ErrType)
	}
	return TruthKind
}

func (x *Pair) kind(c *checker) Kind {
	o := ops[x.Op]
	left, right := x.Left.kind(c), x.Right.kind(c)
	if !fits(left, o.takes) || !fits(right, o.takes) || !fits(left, right) {
		c.note(x.Place, ErrType)
	}
	return o.makes
}

func (s *Let) check(c *checker) {
	c.give(s.To, s.Value.kind(c))
}

func (s *Call) check(c *checker) {
	if s.Arg != nil {
		c.root(s.Arg, WholeKind)
	}
	if s.As != nil {
		c.give(s.As, WholeKind)
	}
	c.count(s.Tries, 1, maxTries)
}

func (s *If) check(c *checker) {
	c.root(s.Cond, TruthKind)
	c.block(s.Then)
	c.block(s.Else)
}

func (s *Try) check(c *checker) {
	c.block(s.First)
	c.block(s.Second)
}

func (s *Repeat) check(c *checker) {
	c.count(s.Count, 0, maxRepeat)
	c.block(s.Body)
}

func (s *Fail) check(*checker) {}
