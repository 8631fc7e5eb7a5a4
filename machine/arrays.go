package machine

import (
	"gambit/api"
	"gambit/code"
	"gambit/value"
)

func list(m *machine, in code.Instruction) {
	if !m.room(in.Arg, in) {
		return
	}
	first := m.values.Len() - in.Arg
	made := &value.List{Items: make([]value.Value, in.Arg)}
	for i := range made.Items {
		made.Items[i] = m.values.At(first + i)
	}
	m.values.Cut(first)
	m.values.Push(value.OfList(made))
}

func length(m *machine, in code.Instruction) {
	of := m.values.Pop()
	size, ok := sizeOf(of)
	if !ok {
		m.fail(api.ErrType, in)
		return
	}
	m.values.Push(value.OfInt(size))
}

// sizeOf tells how many places there are; false, if the value is not of a sort that has any.
func sizeOf(of value.Value) (int64, bool) {
	switch of.Kind {
	case value.String:
		return int64(len(of.Text)), true
	case value.Array:
		return int64(len(of.List.Items)), true
	}
	return 0, false
}

func push(m *machine, in code.Instruction) {
	onto, item := m.two()
	if onto.Kind != value.Array {
		m.fail(api.ErrType, in)
		return
	}
	if !m.room(1, in) {
		return
	}
	onto.List.Items = append(onto.List.Items, item)
	m.values.Push(item)
}

func index(m *machine, in code.Instruction) {
	of, place := m.two()
	if !m.hasPlace(of, place, in) {
		return
	}
	if of.Kind == value.String {
		m.values.Push(value.OfString(of.Text[place.Int : place.Int+1]))
		return
	}
	m.values.Push(of.List.Items[place.Int])
}

func setIndex(m *machine, in code.Instruction) {
	item := m.values.Pop()
	of, place := m.two()
	if of.Kind != value.Array {
		m.fail(api.ErrType, in)
		return
	}
	if m.hasPlace(of, place, in) {
		of.List.Items[place.Int] = item
	}
}

// hasPlace asks for a place that there is, of something that has places.
func (m *machine) hasPlace(of, place value.Value, in code.Instruction) bool {
	size, ok := sizeOf(of)
	switch {
	case !ok || place.Kind != value.Int:
		m.fail(api.ErrType, in)
	case place.Int < 0 || place.Int >= size:
		m.fail(api.ErrIndex, in)
	default:
		return true
	}
	return false
}
