package machine

// stack holds what exprs have made so far, and the counts of what is repeated.
type stack struct {
	values []int64
}

func (s *stack) push(v int64) { s.values = append(s.values, v) }

func (s *stack) pop() int64 {
	v := s.top()
	s.cut(s.height() - 1)
	return v
}

func (s *stack) top() int64 { return s.values[len(s.values)-1] }

func (s *stack) height() int { return len(s.values) }

func (s *stack) cut(height int) { s.values = s.values[:height] }
