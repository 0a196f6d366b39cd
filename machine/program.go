// Package machine makes instructions of an errand's tree, writes and reads them as bytes, and carries them out.
package machine

// Program is an errand as instructions.
type Program struct {
	words     []string // that are asked
	variables int      // how many there are
	names     []string // of the variables; code tells none
	list      []instruction
}

// instruction has as many operands as its kind needs; those of the others are 0.
type instruction struct {
	kind     kind
	operands [2]int
}
