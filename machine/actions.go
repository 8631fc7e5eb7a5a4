package machine

import "gambit/code"

type action func(m *machine, in code.Instruction)

// actions says of each instruction what it does. Instructions that go on with one another's work share an action.
var actions [code.Ops]action

func init() {
	actions[code.Constant] = constant
	actions[code.Load] = load
	actions[code.LoadGlobal] = loadGlobal
	actions[code.Store] = store
	actions[code.StoreGlobal] = storeGlobal
	actions[code.Drop] = drop

	actions[code.Jump] = jump
	actions[code.Round] = unless
	actions[code.Unless] = unless
	actions[code.And] = decide
	actions[code.Or] = decide
	actions[code.AskBool] = askBool

	actions[code.Add] = add
	actions[code.AddInts] = add
	actions[code.Join] = join
	actions[code.Subtract] = subtract
	actions[code.SubtractInts] = subtract
	actions[code.Multiply] = multiply
	actions[code.MultiplyInts] = multiply
	actions[code.Divide] = divide
	actions[code.DivideInts] = divide
	actions[code.Rest] = rest
	actions[code.RestInts] = rest
	actions[code.Negate] = negate
	actions[code.NegateInt] = negate

	actions[code.Equal] = equal
	actions[code.NotEqual] = not
	actions[code.Not] = not
	actions[code.Greater] = compare
	actions[code.Less] = compare
	actions[code.GreaterEqual] = compare
	actions[code.LessEqual] = compare
	actions[code.GreaterInts] = compareInts
	actions[code.LessInts] = compareInts
	actions[code.GreaterEqualInts] = compareInts
	actions[code.LessEqualInts] = compareInts

	actions[code.List] = list
	actions[code.Length] = length
	actions[code.Push] = push
	actions[code.Index] = index
	actions[code.SetIndex] = setIndex

	actions[code.Print] = tell
	actions[code.Call] = call
	actions[code.ReturnNull] = leave
	actions[code.Return] = leave
}
