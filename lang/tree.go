// Package lang reads the language of errands: texts become trees, and trees texts again.
package lang

// Kind is what an expr makes.
type Kind int

const (
	AnyKind   Kind = iota // whichever it must be: of a word that is given nowhere ahead
	WholeKind             // a whole number
	TruthKind             // true or false
)

// Op is an operator between two exprs.
type Op int

const (
	Add Op = iota
	Subtract
	Multiply
	Divide
	Less
	Same
	Differ
)

// How tightly an expr holds together: one that holds less than its place asks for needs brackets there.
const (
	levelCompare = iota
	levelSum
	levelTerm
	levelAtom
)

// ops tells of each Op how it is read; takes is AnyKind where the parts must be of one kind, whichever that is.
var ops = [...]struct {
	text         string
	level        int
	takes, makes Kind
}{
	Add:      {"+", levelSum, WholeKind, WholeKind},
	Subtract: {"-", levelSum, WholeKind, WholeKind},
	Multiply: {"*", levelTerm, WholeKind, WholeKind},
	Divide:   {"/", levelTerm, WholeKind, WholeKind},
	Less:     {"<", levelCompare, WholeKind, TruthKind},
	Same:     {"=", levelCompare, AnyKind, TruthKind},
	Differ:   {"#", levelCompare, AnyKind, TruthKind},
}

// Expr is a *Number, *Truth, *Variable, *Not or *Pair. Brackets are none: the tree's shape says what they say.
type Expr interface {
	kind(c *checker) Kind
	write(w *writer)
}

type Number struct {
	Value, Place int
}

type Truth struct {
	Value bool
}

// Variable stands in an expr, or behind let or as.
type Variable struct {
	Word  string
	Place int
}

// Not has the place of its sign.
type Not struct {
	Part  Expr
	Place int
}

// Pair has the place of its operator's sign.
type Pair struct {
	Op          Op
	Left, Right Expr
	Place       int
}

// Stmt is a *Let, *Call, *If, *Try, *Repeat or *Fail.
type Stmt interface {
	check(c *checker)
	write(w *writer)
}

// Block is statements, one behind the other.
type Block []Stmt

type Let struct {
	To    *Variable
	Value Expr
}

// Call has no Arg and no As (nil) and no Undo (empty) where the text has none; Tries is 1 then.
type Call struct {
	Word  string
	Arg   *Root
	As    *Variable
	Undo  string
	Tries *Number
}

type If struct {
	Cond       *Root
	Then, Else Block
}

type Try struct {
	First, Second Block
}

type Repeat struct {
	Count *Number
	Body  Block
}

type Fail struct{}

// Root is a whole expr with the place of its first sign, which may be a bracket that the tree does not have.
type Root struct {
	Expr  Expr
	Place int
}
