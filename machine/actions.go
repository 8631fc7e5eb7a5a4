package machine

import "gambit/code"

type action func(m *machine, in code.Instruction)

// actions says of each instruction what it does, as actionOf does, by which runs find it.
var actions [code.Ops]action

func init() {
	for op := range actions {
		actions[op] = actionOf(code.Op(op))
	}
}

// Knows tells if there is something that an instruction does.
func Knows(op code.Op) bool {
	return op >= 0 && op < code.Ops && actions[op] != nil
}

// actionOf answers what an instruction does; nil, if there is no such one. Instructions that go on with one another's work share an action.
func actionOf(op code.Op) action {
	switch op {
	case code.Constant:
		return constant
	case code.Load:
		return load
	case code.LoadGlobal:
		return loadGlobal
	case code.Store:
		return store
	case code.StoreGlobal:
		return storeGlobal
	case code.Drop:
		return drop
	case code.Jump:
		return jump
	case code.Round, code.Unless:
		return unless
	case code.And, code.Or:
		return decide
	case code.AskBool:
		return askBool
	case code.Print:
		return tell
	case code.Call:
		return call
	case code.ReturnNull, code.Return:
		return leave
	case code.List:
		return list
	case code.Length:
		return length
	case code.Push:
		return push
	case code.Index:
		return index
	case code.SetIndex:
		return setIndex
	}
	return actionOfSign(op)
}

func actionOfSign(op code.Op) action {
	switch op {
	case code.Add, code.AddInts:
		return add
	case code.Join:
		return join
	case code.Subtract, code.SubtractInts:
		return subtract
	case code.Multiply, code.MultiplyInts:
		return multiply
	case code.Divide, code.DivideInts:
		return divide
	case code.Rest, code.RestInts:
		return rest
	case code.Negate, code.NegateInt:
		return negate
	case code.Equal:
		return equal
	case code.NotEqual, code.Not:
		return not
	case code.Greater, code.Less, code.GreaterEqual, code.LessEqual:
		return compare
	case code.GreaterInts, code.LessInts, code.GreaterEqualInts, code.LessEqualInts:
		return compareInts
	}
	return nil
}
