package machine

// Ask is what is asked: a word, with a number, for the how manieth time, and whether that undoes something.
type Ask struct {
	Word     string
	Arg, Try int
	Undo     bool
}

// Journal hears what is asked, and knows the answers.
type Journal interface {
	// AnswerTo hears an ask, and answers it; false: there is no answer to it yet.
	AnswerTo(Ask) (int, bool)
}

// list is a journal that is kept nowhere: what was asked, and the answers that are still to come.
type list struct {
	asks    []Ask
	answers []int
}

func (l *list) AnswerTo(a Ask) (int, bool) {
	l.asks = append(l.asks, a)
	if len(l.answers) == 0 {
		return 0, false
	}
	answer := l.answers[0]
	l.answers = l.answers[1:]
	return answer, true
}
