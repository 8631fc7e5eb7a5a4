// Package stack: a stack of values of one type.
package stack

// Stack holds values, the newest on top; its zero value is empty.
type Stack[T any] struct {
	values []T
}

// Push lays a value on top.
func (s *Stack[T]) Push(value T) {
	s.values = append(s.values, value)
}

// Pop takes the top away and answers it; of an empty stack it is the zero value.
func (s *Stack[T]) Pop() T {
	top := s.Top()
	s.Cut(s.Len() - 1)
	return top
}

// Top answers the newest value; of an empty stack it is the zero value.
func (s *Stack[T]) Top() T {
	return s.At(s.Len() - 1)
}

// At answers the value with so many below it; where none is, it is the zero value.
func (s *Stack[T]) At(place int) T {
	if place < 0 || place >= len(s.values) {
		var none T
		return none
	}
	return s.values[place]
}

// Put sets the value with so many below it; where none is, nothing is set.
func (s *Stack[T]) Put(place int, value T) {
	if place >= 0 && place < len(s.values) {
		s.values[place] = value
	}
}

// Cut takes values away until no more than so many are left.
func (s *Stack[T]) Cut(length int) {
	if length < 0 || length >= len(s.values) {
		return
	}
	// What was taken away is not to be kept alive by the spare room.
	clear(s.values[length:])
	s.values = s.values[:length]
}

// Len tells how many values there are.
func (s *Stack[T]) Len() int {
	return len(s.values)
}
