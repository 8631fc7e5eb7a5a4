package emit

import (
	"slices"
	"testing"

	"gambit/code"
	"gambit/machine"
	"gambit/parse"
	"gambit/scan"
	"gambit/value"
)

func emitted(t *testing.T, text string) *code.Program {
	t.Helper()
	tokens, _ := scan.Scan(text)
	read, fault := parse.Program(tokens)
	if read == nil {
		t.Fatalf("%q: fault %+v", text, fault)
	}
	return Program(read)
}

func constantOf(v value.Value) code.Instruction {
	return code.Instruction{Op: code.Constant, Value: v}
}

func TestLoops(t *testing.T) {
	yes := constantOf(value.OfBool(true))
	got := emitted(t, "while\ntrue { while true { continue; break; }\nbreak; continue; }\nprint 1;").Main.Steps
	want := []code.Instruction{
		yes, {Op: code.Round, Arg: 10, Line: 1},
		yes, {Op: code.Round, Arg: 7, Line: 2}, {Op: code.Jump, Arg: 2}, {Op: code.Jump, Arg: 7}, {Op: code.Jump, Arg: 2},
		{Op: code.Jump, Arg: 10}, {Op: code.Jump, Arg: 0}, {Op: code.Jump, Arg: 0},
		constantOf(value.OfInt(1)), {Op: code.Print, Line: 4},
	}
	if !slices.Equal(got, want) {
		t.Errorf("got %v, want %v", got, want)
	}
}

func TestSlots(t *testing.T) {
	got := emitted(t, "let a = 1; if true { let b = a; let a = b; } if true { let c = a; } fn f(x, y) { let a = x; if a { let x = a; } let z = y; return; } let d = 2;")
	if got.Globals != 2 || got.Main.Slots != 2 || len(got.Functions) != 1 {
		t.Fatalf("got %+v", got)
	}
	f := got.Functions[0]
	want := []code.Instruction{
		{Op: code.Load, Arg: 0}, {Op: code.Store, Arg: 2},
		{Op: code.Load, Arg: 2}, {Op: code.Unless, Arg: 7, Line: 1},
		{Op: code.Load, Arg: 2}, {Op: code.Store, Arg: 3}, {Op: code.Jump, Arg: 7},
		{Op: code.Load, Arg: 1}, {Op: code.Store, Arg: 3},
		{Op: code.ReturnNull}, {Op: code.ReturnNull},
	}
	if f.Name != "f" || f.Params != 2 || f.Body.Slots != 4 || !slices.Equal(f.Body.Steps, want) {
		t.Errorf("got %+v, want the steps %v", f, want)
	}
}

func TestDeciding(t *testing.T) {
	got := emitted(t, "let a = 1; a\n&&\na; a[0]\n=\n-a;").Main.Steps[2:]
	want := []code.Instruction{
		{Op: code.LoadGlobal}, {Op: code.And, Arg: 6, Line: 2}, {Op: code.LoadGlobal}, {Op: code.AskBool, Line: 2}, {Op: code.Drop},
		{Op: code.LoadGlobal}, constantOf(value.OfInt(0)), {Op: code.LoadGlobal}, {Op: code.Negate, Line: 5}, {Op: code.SetIndex, Line: 3},
	}
	if !slices.Equal(got, want) {
		t.Errorf("got %v, want %v", got, want)
	}
}

// Of every sort of statement and expression the instructions are such as can be run.
func TestAllIsKnown(t *testing.T) {
	program := emitted(t, `let a = [1, "s", true, null]; fn f(x, y) { let z = x; x = y; a = z; if x { return; } else { return y; } }
		while a == 1 || a != 2 && !a { if a { break; } continue; } a[0] = -a; print f(len(a), push(a, 1)); a;
		print (1 + 2 - 3 * 4 / 5 % 6 < 7) == (1 > 2) == (1 <= 2) == (a[0] >= 2);`)
	for _, body := range []code.Body{program.Main, program.Functions[0].Body} {
		for _, in := range body.Steps {
			if !machine.Knows(in.Op) {
				t.Errorf("%+v is not known", in)
			}
		}
	}
}
