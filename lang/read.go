package lang

const (
	maxText = 300
	maxNest = 4
)

// Read makes a tree of a text, or tells by an error what is wrong with it: a *Fault, where there is a place.
func Read(text string) (Block, error) {
	if len(text) > maxText {
		return nil, ErrLong
	}
	errand, err := parse(text)
	if err != nil {
		return nil, err
	}
	if err := checkBlock(errand); err != nil {
		return nil, err
	}
	return errand, nil
}

// reader goes over a text, one sign ahead; what does not fit is thrown as a *Fault.
type reader struct {
	text    string
	now     sign
	depth   int
	tooDeep *Fault // the first one; told only once the whole text is known to be an errand
}

func parse(text string) (errand Block, err error) {
	r := &reader{text: text}
	defer func() {
		switch thrown := recover().(type) {
		case nil:
		case *Fault:
			errand, err = nil, thrown
		default: // no panic may leave, whatever it is
			errand, err = nil, &Fault{r.now.place, ErrText}
		}
	}()
	r.moveTo(0)
	errand = r.stmts()
	if r.now.kind != signEnd {
		r.refuse()
	}
	if r.tooDeep != nil {
		return nil, r.tooDeep
	}
	return errand, nil
}

func (r *reader) refuse() { panic(&Fault{r.now.place, ErrText}) }

func (r *reader) moveTo(place int) {
	next, ok := signFrom(r.text, place)
	r.now = next
	if !ok {
		r.refuse()
	}
}

// step answers the sign at hand and goes on to the next one.
func (r *reader) step() sign {
	had := r.now
	r.moveTo(had.place + len(had.text))
	return had
}

func (r *reader) take(text string) bool {
	if r.now.kind != signFixed || r.now.text != text {
		return false
	}
	r.step()
	return true
}

func (r *reader) must(text string) {
	if !r.take(text) {
		r.refuse()
	}
}

func (r *reader) mustBe(kind signKind) sign {
	if r.now.kind != kind {
		r.refuse()
	}
	return r.step()
}

func (r *reader) word() string { return r.mustBe(signWord).text }

func (r *reader) variable() *Variable {
	s := r.mustBe(signWord)
	return &Variable{s.text, s.place}
}

func (r *reader) number() *Number {
	s := r.mustBe(signNumber)
	return &Number{valueOf(s.text), s.place}
}

// valueOf reads the digits of a sign, which are too few to wrap round. (The error of strconv.Atoi would reach tables that are too great.)
func valueOf(digits string) int {
	value := 0
	for i := range len(digits) {
		value = value*10 + int(digits[i]-'0')
	}
	return value
}

// open takes a sign that begins a block or a bracket, and counts how deep that stands.
func (r *reader) open(text string) {
	place := r.now.place
	r.must(text)
	r.depth++
	if r.depth > maxNest && r.tooDeep == nil {
		r.tooDeep = &Fault{place, ErrNest}
	}
}

func (r *reader) shut(text string) {
	r.must(text)
	r.depth--
}

func (r *reader) block() Block {
	r.open("{")
	b := r.stmts()
	r.shut("}")
	return b
}

func (r *reader) stmts() Block {
	var b Block
	for {
		s, ok := r.stmt()
		if !ok {
			return b
		}
		b = append(b, s)
	}
}

// stmt answers false, and takes nothing, where no statement begins.
func (r *reader) stmt() (Stmt, bool) {
	switch {
	case r.take("let"):
		return r.let(), true
	case r.take("call"):
		return r.call(), true
	case r.take("if"):
		return r.choice(), true
	case r.take("try"):
		return r.try(), true
	case r.take("repeat"):
		return &Repeat{Count: r.number(), Body: r.block()}, true
	case r.take("fail"):
		r.must(";")
		return &Fail{}, true
	}
	return nil, false
}

func (r *reader) let() *Let {
	to := r.variable()
	r.must("=")
	value := r.expr()
	r.must(";")
	return &Let{To: to, Value: value}
}

func (r *reader) call() *Call {
	c := &Call{Word: r.word(), Tries: &Number{Value: 1}}
	r.must("(")
	if !r.take(")") {
		c.Arg = r.root()
		r.must(")")
	}
	if r.take("as") {
		c.As = r.variable()
	}
	if r.take("undo") {
		c.Undo = r.word()
	}
	if r.take("tries") {
		c.Tries = r.number()
	}
	r.must(";")
	return c
}

func (r *reader) choice() *If {
	s := &If{Cond: r.root(), Then: r.block()}
	if r.take("else") {
		s.Else = r.block()
	}
	return s
}

func (r *reader) try() *Try {
	first := r.block()
	r.must("else")
	return &Try{First: first, Second: r.block()}
}

func (r *reader) root() *Root {
	place := r.now.place
	return &Root{r.expr(), place}
}

func (r *reader) expr() Expr {
	left := r.sum()
	if op, place, ok := r.operator(levelCompare); ok {
		return &Pair{op, left, r.sum(), place}
	}
	return left
}

func (r *reader) sum() Expr  { return r.chain(levelSum, r.term) }
func (r *reader) term() Expr { return r.chain(levelTerm, r.atom) }

// chain reads parts with operators of one level between them; they belong together from the left.
func (r *reader) chain(level int, part func() Expr) Expr {
	left := part()
	for {
		op, place, ok := r.operator(level)
		if !ok {
			return left
		}
		left = &Pair{op, left, part(), place}
	}
}

// operator takes an operator of a level, if one is at hand.
func (r *reader) operator(level int) (Op, int, bool) {
	place := r.now.place
	for i, o := range ops {
		if o.level == level && r.take(o.text) {
			return Op(i), place, true
		}
	}
	return 0, place, false
}

func (r *reader) atom() Expr {
	place := r.now.place
	switch {
	case r.now.kind == signNumber:
		return r.number()
	case r.now.kind == signWord:
		return r.variable()
	case r.take("true"):
		return &Truth{true}
	case r.take("false"):
		return &Truth{false}
	case r.take("not"):
		return &Not{r.atom(), place}
	}
	r.open("(")
	inner := r.expr()
	r.shut(")")
	return inner
}
