package machine

import (
	"gambit/api"
	"gambit/code"
	"gambit/value"
)

func add(m *machine, in code.Instruction) {
	left, right := m.two()
	if left.Kind == value.String && right.Kind == value.String {
		join(m, left.Text, right.Text, in)
		return
	}
	ints(m, left, right, in)
}

func join(m *machine, left, right string, in code.Instruction) {
	if len(left)+len(right) > api.MaxString {
		m.fail(api.ErrMemory, in)
		return
	}
	m.values.Push(value.OfString(left + right))
}

func reckon(m *machine, in code.Instruction) {
	left, right := m.two()
	ints(m, left, right, in)
}

func ints(m *machine, left, right value.Value, in code.Instruction) {
	switch {
	case left.Kind != value.Int || right.Kind != value.Int:
		m.fail(api.ErrType, in)
	case right.Int == 0 && (in.Op == code.Divide || in.Op == code.Rest):
		m.fail(api.ErrDivide, in)
	default:
		m.values.Push(value.OfInt(workedOut(in.Op, left.Int, right.Int)))
	}
}

// workedOut needs no care for the least int: Go's own signs wrap round as those of programs do.
func workedOut(op code.Op, left, right int64) int64 {
	switch op {
	case code.Add:
		return left + right
	case code.Subtract:
		return left - right
	case code.Multiply:
		return left * right
	case code.Divide:
		return left / right
	}
	return left % right
}

func negate(m *machine, in code.Instruction) {
	of := m.values.Pop()
	if of.Kind != value.Int {
		m.fail(api.ErrType, in)
		return
	}
	m.values.Push(value.OfInt(-of.Int))
}

func equal(m *machine, in code.Instruction) {
	left, right := m.two()
	m.pushBool(left == right)
}

func not(m *machine, in code.Instruction) {
	switch in.Op {
	case code.NotEqual:
		equal(m, in)
		fallthrough
	case code.Not:
		of := m.values.Pop()
		if of.Kind != value.Bool {
			m.fail(api.ErrType, in)
			return
		}
		m.pushBool(!of.Yes)
	}
}

func compare(m *machine, in code.Instruction) {
	left, right := m.two()
	if left.Kind != right.Kind || left.Kind != value.Int && left.Kind != value.String {
		m.fail(api.ErrType, in)
		return
	}
	switch in.Op {
	case code.Greater:
		left, right = right, left
		fallthrough
	case code.Less:
		m.pushBool(before(left, right))
	case code.GreaterEqual:
		left, right = right, left
		fallthrough
	case code.LessEqual:
		m.pushBool(!before(right, left))
	}
}

// before is of two ints or two strings: what their kind does not use is the same in both.
func before(left, right value.Value) bool {
	return left.Int < right.Int || left.Text < right.Text
}
