package machine

// Ask is what is asked: a word, with a number, for the how manieth time, and whether that undoes something.
type Ask struct {
	Word     string
	Arg, Try int
	Undo     bool
}

// journal holds what was asked, and the answers that are still to come.
type journal struct {
	asks    []Ask
	answers []int
}

// answerTo notes what is asked; false: there is no answer to it.
func (j *journal) answerTo(a Ask) (int, bool) {
	j.asks = append(j.asks, a)
	if len(j.answers) == 0 {
		return 0, false
	}
	answer := j.answers[0]
	j.answers = j.answers[1:]
	return answer, true
}
