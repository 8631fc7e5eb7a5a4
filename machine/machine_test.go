package machine

import (
	"slices"
	"testing"

	"gambit/api"
	"gambit/code"
	"gambit/value"
)

func TestEachInstructionHasAnAction(t *testing.T) {
	for op, action := range actions {
		if action == nil {
			t.Errorf("instruction %d has none", op)
		}
	}
}

func constantOf(v value.Value) code.Instruction {
	return code.Instruction{Op: code.Constant, Value: v}
}

func TestCallsAndVariables(t *testing.T) {
	program := &code.Program{
		Globals: 1,
		Main: code.Body{Slots: 1, Steps: []code.Instruction{
			constantOf(value.OfInt(5)), {Op: code.Store, Arg: 0},
			{Op: code.LoadGlobal, Arg: 0}, {Op: code.Print},
			{Op: code.Load, Arg: 0}, constantOf(value.OfInt(3)), {Op: code.Call, Arg: 0}, {Op: code.Print},
			{Op: code.LoadGlobal, Arg: 0}, {Op: code.Print},
			{Op: code.Load, Arg: 0}, {Op: code.Print},
			constantOf(value.Value{}), {Op: code.Negate, Line: 9},
		}},
		Functions: []code.Function{{Name: "f", Params: 2, Body: code.Body{Slots: 3, Steps: []code.Instruction{
			{Op: code.Load, Arg: 2}, {Op: code.Print},
			{Op: code.Load, Arg: 0}, {Op: code.Load, Arg: 1}, {Op: code.Subtract}, {Op: code.Store, Arg: 2},
			{Op: code.Load, Arg: 2}, {Op: code.StoreGlobal, Arg: 0},
			{Op: code.Load, Arg: 1}, {Op: code.Return},
		}}}},
	}
	for range 2 {
		got := Run(program)
		if want := []string{"null", "null", "3", "2", "5"}; !slices.Equal(got.Out, want) || got.Code != api.ErrType || got.Line != 9 {
			t.Errorf("Run = %+v, want %q and an error in line 9", got, want)
		}
	}
}

func TestNothingIsLeftOnTheStack(t *testing.T) {
	program := &code.Program{
		Main:      code.Body{Steps: []code.Instruction{{Op: code.Call}, {Op: code.Drop}}},
		Functions: []code.Function{{Body: code.Body{Slots: 4, Steps: []code.Instruction{constantOf(value.OfInt(1)), {Op: code.ReturnNull}}}}},
	}
	m := &machine{program: program, fuel: 1}
	m.begin(&program.Main, 0)
	m.work()
	if m.values.Len() != 0 || m.calls.Len() != 0 || m.fuel != 0 || m.wrong != (api.Fault{}) {
		t.Errorf("behind a call: %d values, %d calls, fuel %d, %+v", m.values.Len(), m.calls.Len(), m.fuel, m.wrong)
	}
}
