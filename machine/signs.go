package machine

import (
	"gambit/api"
	"gambit/code"
	"gambit/value"
)

func add(m *machine, in code.Instruction) {
	switch in.Op {
	case code.Add:
		if m.both(value.String) {
			join(m, in)
			return
		}
		if !m.askInts(in) {
			return
		}
		fallthrough
	case code.AddInts:
		left, right := m.two()
		m.pushInt(left.Int + right.Int)
	}
}

func join(m *machine, in code.Instruction) {
	left, right := m.two()
	if len(left.Text)+len(right.Text) > api.MaxString {
		m.fail(api.ErrMemory, in)
		return
	}
	m.values.Push(value.OfString(left.Text + right.Text))
}

func subtract(m *machine, in code.Instruction) {
	switch in.Op {
	case code.Subtract:
		if !m.askInts(in) {
			return
		}
		fallthrough
	case code.SubtractInts:
		left, right := m.two()
		m.pushInt(left.Int - right.Int)
	}
}

func multiply(m *machine, in code.Instruction) {
	switch in.Op {
	case code.Multiply:
		if !m.askInts(in) {
			return
		}
		fallthrough
	case code.MultiplyInts:
		left, right := m.two()
		m.pushInt(left.Int * right.Int)
	}
}

// divide needs no care for the least int: Go's own signs wrap round as those of programs do.
func divide(m *machine, in code.Instruction) {
	switch in.Op {
	case code.Divide:
		if !m.askInts(in) {
			return
		}
		fallthrough
	case code.DivideInts:
		left, right := m.two()
		if right.Int == 0 {
			m.fail(api.ErrDivide, in)
			return
		}
		m.pushInt(left.Int / right.Int)
	}
}

func rest(m *machine, in code.Instruction) {
	switch in.Op {
	case code.Rest:
		if !m.askInts(in) {
			return
		}
		fallthrough
	case code.RestInts:
		left, right := m.two()
		if right.Int == 0 {
			m.fail(api.ErrDivide, in)
			return
		}
		m.pushInt(left.Int % right.Int)
	}
}

func negate(m *machine, in code.Instruction) {
	switch in.Op {
	case code.Negate:
		if m.values.Top().Kind != value.Int {
			m.fail(api.ErrType, in)
			return
		}
		fallthrough
	case code.NegateInt:
		m.pushInt(-m.values.Pop().Int)
	}
}

func equal(m *machine, in code.Instruction) {
	left, right := m.two()
	m.pushBool(left == right)
}

func not(m *machine, in code.Instruction) {
	switch in.Op {
	case code.NotEqual:
		equal(m, in)
		fallthrough
	case code.Not:
		of := m.values.Pop()
		if of.Kind != value.Bool {
			m.fail(api.ErrType, in)
			return
		}
		m.pushBool(!of.Yes)
	}
}

func compare(m *machine, in code.Instruction) {
	if !m.both(value.Int) && !m.both(value.String) {
		m.fail(api.ErrType, in)
		return
	}
	left, right := m.two()
	switch in.Op {
	case code.Greater:
		left, right = right, left
		fallthrough
	case code.Less:
		m.pushBool(before(left, right))
	case code.GreaterEqual:
		left, right = right, left
		fallthrough
	case code.LessEqual:
		m.pushBool(!before(right, left))
	}
}

// before is of two ints or two strings: what their kind does not use is the same in both.
func before(left, right value.Value) bool {
	return left.Int < right.Int || left.Text < right.Text
}

func compareInts(m *machine, in code.Instruction) {
	left, right := m.two()
	switch in.Op {
	case code.GreaterInts:
		left, right = right, left
		fallthrough
	case code.LessInts:
		m.pushBool(left.Int < right.Int)
	case code.GreaterEqualInts:
		left, right = right, left
		fallthrough
	case code.LessEqualInts:
		m.pushBool(left.Int <= right.Int)
	}
}
