package machine

// heading stands ahead of every code.
const heading = "errand 1\n"

// Write makes a text of bytes of a program: the heading, how many variables, how many words, each word behind its length, and the instructions, each a byte for its kind with its operands behind it. Numbers are two bytes, the upper one first; a kind and a length are one.
func Write(p *Program) string {
	code := []byte(heading)
	code = appendNumber(code, p.variables)
	code = appendNumber(code, len(p.words))
	for _, w := range p.words {
		code = append(code, byte(len(w)))
		code = append(code, w...)
	}
	table := meanings()
	for _, i := range p.list {
		code = append(code, byte(i.kind))
		for n := range table[i.kind].needs {
			code = appendNumber(code, i.operands[n])
		}
	}
	return string(code)
}

func appendNumber(code []byte, n int) []byte {
	return append(code, byte(n>>8), byte(n))
}
