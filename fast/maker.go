package fast

import (
	"gambit/code"
	"gambit/stack"
	"gambit/value"
)

// A maker goes over the instructions of a body one by one, and keeps in step with what they lay on top of one another.
//
// It need not follow jumps: between statements nothing lies there, and where `&&` and `||` land it is a bool, whichever way was gone.
type maker struct {
	program *code.Program
	params  []known
	above   stack.Stack[known] // of what is being worked out
}

// body has as many instructions as the one that it is made of, so that jumps lead to the same places.
func (m *maker) body(of *code.Body) code.Body {
	steps := make([]code.Instruction, len(of.Steps))
	for i, in := range of.Steps {
		steps[i] = m.quicker(in)
		m.follow(in)
	}
	return code.Body{Slots: of.Slots, Steps: steps}
}

// quicker answers an instruction that does the same as one, with what is known of the values that it takes.
func (m *maker) quicker(in code.Instruction) code.Instruction {
	if k := m.loaded(in); k.whole {
		return code.Instruction{Op: code.Constant, Value: k.like}
	}
	if in.Op == code.Add && m.both(value.String) {
		in.Op = code.Join
	}
	if in.Op == code.Negate && m.above.Top().sure(value.Int) {
		in.Op = code.NegateInt
	}
	if m.both(value.Int) {
		in.Op = ofInts(in.Op)
	}
	return in
}

// both tells if the two values on top are known to be of a kind.
func (m *maker) both(kind value.Kind) bool {
	top := m.above.Len() - 1
	return m.above.At(top).sure(kind) && m.above.At(top-1).sure(kind)
}

// ofInts answers the instruction that does the same of two ints without asking if they are; others stay as they are.
func ofInts(op code.Op) code.Op {
	switch op {
	case code.Add:
		return code.AddInts
	case code.Subtract:
		return code.SubtractInts
	case code.Multiply:
		return code.MultiplyInts
	case code.Divide:
		return code.DivideInts
	case code.Rest:
		return code.RestInts
	case code.Greater:
		return code.GreaterInts
	case code.Less:
		return code.LessInts
	case code.GreaterEqual:
		return code.GreaterEqualInts
	case code.LessEqual:
		return code.LessEqualInts
	}
	return op
}

// follow does to what is known what an instruction does to the values.
func (m *maker) follow(in code.Instruction) {
	given, gives := m.gives(in)
	m.above.Cut(m.above.Len() - m.takes(in))
	if gives {
		m.above.Push(given)
	}
}

// takes tells how many values an instruction takes from the top.
func (m *maker) takes(in code.Instruction) int {
	switch in.Op {
	case code.Constant, code.Load, code.LoadGlobal, code.Jump, code.ReturnNull:
		return 0
	case code.List:
		return in.Arg
	case code.Call:
		return m.program.Functions[in.Arg].Params
	case code.SetIndex:
		return 3
	case code.Add, code.Subtract, code.Multiply, code.Divide, code.Rest, code.Push, code.Index,
		code.Equal, code.NotEqual, code.Greater, code.Less, code.GreaterEqual, code.LessEqual:
		return 2
	}
	return 1
}

// gives answers what is known of the value that an instruction lays on top; false, if it lays none.
func (m *maker) gives(in code.Instruction) (known, bool) {
	switch in.Op {
	case code.Constant:
		return itself(in.Value), true
	case code.Load, code.LoadGlobal, code.Call, code.Index:
		return m.loaded(in), true
	case code.Add:
		return m.sum(), true
	case code.Subtract, code.Multiply, code.Divide, code.Rest, code.Negate, code.Length:
		return ofKind(value.Int), true
	case code.Equal, code.NotEqual, code.Not, code.Greater, code.Less, code.GreaterEqual, code.LessEqual, code.AskBool:
		return ofKind(value.Bool), true
	case code.List:
		return ofKind(value.Array), true
	case code.Push:
		return m.above.Top(), true
	}
	return known{}, false
}

// loaded answers what is known of a value that is fetched: only of parameters there is something.
func (m *maker) loaded(in code.Instruction) known {
	if in.Op == code.Load && in.Arg < len(m.params) {
		return m.params[in.Arg]
	}
	return known{}
}

// sum is of two values that are of one sort, if there is a sum, so that one of them tells of both.
func (m *maker) sum() known {
	top := m.above.Len() - 1
	for _, kind := range [2]value.Kind{value.Int, value.String} {
		if m.above.At(top).sure(kind) || m.above.At(top-1).sure(kind) {
			return ofKind(kind)
		}
	}
	return known{}
}
