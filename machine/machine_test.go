package machine

import (
	"math"
	"reflect"
	"slices"
	"testing"

	"gambit/api"
	"gambit/code"
	"gambit/value"
)

func TestEachInstructionHasAnAction(t *testing.T) {
	for op := range code.Ops {
		if !Knows(op) || actionOf(op) == nil {
			t.Errorf("instruction %d has none", op)
		}
	}
	for _, op := range []code.Op{-1, code.Ops, math.MinInt, math.MaxInt} {
		if Knows(op) || actionOf(op) != nil {
			t.Errorf("%d is no instruction, but has an action", op)
		}
	}
}

// The table and the function, by which runs find actions, say the same.
func TestTableAndFunction(t *testing.T) {
	for op := range code.Ops {
		if reflect.ValueOf(actions[op]).Pointer() != reflect.ValueOf(actionOf(op)).Pointer() {
			t.Errorf("instruction %d has two actions", op)
		}
	}
}

// Runs do not look into the table.
func TestRunsWithoutTheTable(t *testing.T) {
	kept := actions
	defer func() { actions = kept }()
	clear(actions[:])
	program := &code.Program{Main: code.Body{Steps: []code.Instruction{constantOf(value.OfInt(5)), {Op: code.Negate}, {Op: code.Print}}}}
	if got := Run(program, nil); !slices.Equal(got.Out, []string{"-5"}) {
		t.Errorf("Run = %+v", got)
	}
	if Knows(code.Print) {
		t.Errorf("Knows does not look into the table")
	}
}

func constantOf(v value.Value) code.Instruction {
	return code.Instruction{Op: code.Constant, Value: v}
}

func TestCallsAndVariables(t *testing.T) {
	program := &code.Program{
		Globals: 1,
		Main: code.Body{Slots: 1, Steps: []code.Instruction{
			constantOf(value.OfInt(5)), {Op: code.Store, Arg: 0},
			{Op: code.LoadGlobal, Arg: 0}, {Op: code.Print},
			{Op: code.Load, Arg: 0}, constantOf(value.OfInt(3)), {Op: code.Call, Arg: 0}, {Op: code.Print},
			{Op: code.LoadGlobal, Arg: 0}, {Op: code.Print},
			{Op: code.Load, Arg: 0}, {Op: code.Print},
			constantOf(value.Value{}), {Op: code.Negate, Line: 9},
		}},
		Functions: []code.Function{{Name: "f", Params: 2, Body: code.Body{Slots: 3, Steps: []code.Instruction{
			{Op: code.Load, Arg: 2}, {Op: code.Print},
			{Op: code.Load, Arg: 0}, {Op: code.Load, Arg: 1}, {Op: code.Subtract}, {Op: code.Store, Arg: 2},
			{Op: code.Load, Arg: 2}, {Op: code.StoreGlobal, Arg: 0},
			{Op: code.Load, Arg: 1}, {Op: code.Return},
		}}}},
	}
	for range 2 {
		got := Run(program, nil)
		if want := []string{"null", "null", "3", "2", "5"}; !slices.Equal(got.Out, want) || got.Code != api.ErrType || got.Line != 9 {
			t.Errorf("Run = %+v, want %q and an error in line 9", got, want)
		}
	}
}

func TestNothingIsLeftOnTheStack(t *testing.T) {
	program := &code.Program{
		Main:      code.Body{Steps: []code.Instruction{{Op: code.Call}, {Op: code.Drop}}},
		Functions: []code.Function{{Body: code.Body{Slots: 4, Steps: []code.Instruction{constantOf(value.OfInt(1)), {Op: code.ReturnNull}}}}},
	}
	m := &machine{program: program, lots: make([]lot, 1), fuel: 1}
	m.begin(&program.Main, 0)
	m.work()
	if m.values.Len() != 0 || m.calls.Len() != 0 || m.fuel != 0 || m.wrong != (api.Fault{}) {
		t.Errorf("behind a call: %d values, %d calls, fuel %d, %+v", m.values.Len(), m.calls.Len(), m.fuel, m.wrong)
	}
}

// A fast call runs in its form, a slow one in the function's own body.
func TestWhichBodyRuns(t *testing.T) {
	steps := []code.Instruction{{Op: code.Load}, {Op: code.Load}, {Op: code.Add}, {Op: code.Return}}
	program := &code.Program{Functions: []code.Function{{Params: 1, Body: code.Body{Slots: 1, Steps: steps}}}}
	m := &machine{program: program, lots: make([]lot, 1), bets: []api.Bet{{After: 1, Kinds: []int{api.Int}}}}
	for call, c := range []struct {
		argument value.Value
		want     code.Op
	}{{value.OfInt(1), code.Add}, {value.OfInt(1), code.AddInts}, {value.OfInt(2), code.AddInts}, {value.OfString("a"), code.Add}, {value.OfInt(1), code.Add}} {
		m.values.Push(c.argument)
		if got := m.body(0).Steps[2].Op; got != c.want {
			t.Errorf("call %d: instruction %d, want %d", call, got, c.want)
		}
	}
	if m.lots[0] != (lot{calls: 5, fast: 2, drops: 1}) {
		t.Errorf("behind the calls: %+v", m.lots[0])
	}
}
