package machine

// Stack keeps what is to be gone on with: what came last is taken first.
type Stack[T any] struct {
	items []T
}

// Push lays one more on it.
func (s *Stack[T]) Push(item T) { s.items = append(s.items, item) }

// Pop takes the last one; there must be one.
func (s *Stack[T]) Pop() T {
	last := len(s.items) - 1
	item := s.items[last]
	s.items = s.items[:last]
	return item
}

// Len tells how many there are.
func (s *Stack[T]) Len() int { return len(s.items) }
