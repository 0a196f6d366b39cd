package machine

import "strings"

const (
	maxWord = 8
	maxCode = 1 << 16 // bytes; far above what any errand makes, so that no text takes up much
)

// reader goes over a code; each of its steps answers false where the code breaks off or is none.
type reader struct {
	rest  string
	table [kindCount]meaning
}

// Read makes a program of a code, or tells by a *Flaw why it is none. What it answers can be carried out with any answers: nothing is taken that is not there, and nothing leads outside.
func Read(code string) (*Program, error) {
	if len(code) > maxCode {
		return nil, &Flaw{-1, "it is too long"}
	}
	rest, ok := strings.CutPrefix(code, heading)
	if !ok {
		return nil, &Flaw{-1, "another heading"}
	}
	r := &reader{rest, meanings()}
	p := &Program{}
	if p.variables, ok = r.number(); !ok {
		return nil, &Flaw{-1, "it breaks off"}
	}
	if p.words, ok = r.words(); !ok {
		return nil, &Flaw{-1, "its words are none"}
	}
	for r.rest != "" {
		i, ok := r.instruction()
		if !ok {
			return nil, &Flaw{len(p.list), "it breaks off, or there is no such kind"}
		}
		p.list = append(p.list, i)
	}
	if err := p.verify(); err != nil {
		return nil, err
	}
	return p, nil
}

func (r *reader) bytes(n int) (string, bool) {
	if len(r.rest) < n {
		return "", false
	}
	taken := r.rest[:n]
	r.rest = r.rest[n:]
	return taken, true
}

func (r *reader) number() (int, bool) {
	b, ok := r.bytes(2)
	if !ok {
		return 0, false
	}
	return int(b[0])<<8 | int(b[1]), true
}

func (r *reader) words() ([]string, bool) {
	count, ok := r.number()
	if !ok {
		return nil, false
	}
	var words []string
	for range count {
		w, ok := r.word()
		if !ok {
			return nil, false
		}
		words = append(words, w)
	}
	return words, true
}

func (r *reader) word() (string, bool) {
	length, ok := r.bytes(1)
	if !ok || length[0] == 0 || length[0] > maxWord {
		return "", false
	}
	w, ok := r.bytes(int(length[0]))
	if !ok || strings.ContainsFunc(w, isNoLetter) {
		return "", false
	}
	return strings.Clone(w), true
}

func isNoLetter(c rune) bool { return c < 'a' || c > 'z' }

func (r *reader) instruction() (instruction, bool) {
	b, ok := r.bytes(1)
	if !ok || kind(b[0]) >= kindCount {
		return instruction{}, false
	}
	i := instruction{kind: kind(b[0])}
	for n := range r.table[i.kind].needs {
		if i.operands[n], ok = r.number(); !ok {
			return instruction{}, false
		}
	}
	return i, true
}
