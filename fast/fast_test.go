package fast

import (
	"reflect"
	"slices"
	"testing"

	"gambit/api"
	"gambit/code"
	"gambit/emit"
	"gambit/parse"
	"gambit/scan"
	"gambit/value"
)

// written answers a program whose first function has the parameters x and y.
func written(t *testing.T, body string) *code.Program {
	t.Helper()
	tokens, _ := scan.Scan("let v = 1; fn f(x, y) {\n" + body + " } fn g(a, b) { }")
	read, fault := parse.Program(tokens)
	if read == nil {
		t.Fatalf("%q: fault %+v", body, fault)
	}
	return emit.Program(read)
}

// becomes asks which instructions others stand for in the form that is made for a bet.
func becomes(t *testing.T, body string, bet api.Bet, want map[code.Op]code.Op) {
	t.Helper()
	program := written(t, body)
	slow := program.Functions[0].Body
	form := New(program, bet).Body
	if len(form.Steps) != len(slow.Steps) || form.Slots != slow.Slots {
		t.Fatalf("%q with %+v: %+v, of %+v", body, bet, form, slow)
	}
	for i, in := range slow.Steps {
		op, other := want[in.Op]
		if !other {
			op = in.Op
		}
		if got := form.Steps[i]; got.Op != op || op != code.Constant && (got.Arg != in.Arg || got.Line != in.Line) {
			t.Errorf("%q with %+v: %+v stands for %+v, want the instruction %d", body, bet, got, in, op)
		}
	}
}

func on(kinds ...int) api.Bet { return api.Bet{Kinds: kinds} }

func TestSignsOfInts(t *testing.T) {
	for sign, ops := range map[string][2]code.Op{
		"+": {code.Add, code.AddInts}, "-": {code.Subtract, code.SubtractInts}, "*": {code.Multiply, code.MultiplyInts}, "/": {code.Divide, code.DivideInts}, "%": {code.Rest, code.RestInts},
		">": {code.Greater, code.GreaterInts}, "<": {code.Less, code.LessInts}, ">=": {code.GreaterEqual, code.GreaterEqualInts}, "<=": {code.LessEqual, code.LessEqualInts},
		"==": {code.Equal, code.Equal}, "!=": {code.NotEqual, code.NotEqual},
	} {
		quick := map[code.Op]code.Op{ops[0]: ops[1]}
		both := "return x\n" + sign + "\ny;"
		becomes(t, both, on(api.Int, api.Int), quick)
		becomes(t, both, on(api.Int), nil)
		becomes(t, both, on(api.Any, api.Int), nil)
		becomes(t, both, on(api.Int, api.Bool), nil)
		becomes(t, both, on(api.Array, api.Array), nil)
		becomes(t, both, on(), nil)
		becomes(t, "return x "+sign+" 1;", on(api.Int), quick)
		becomes(t, "return 1 "+sign+" x;", on(api.Int), quick)
		becomes(t, "return 1 "+sign+" x;", on(api.Any, api.Int), nil)
		becomes(t, "return x "+sign+" v;", on(api.Int), nil)
		becomes(t, "let z = x; return x "+sign+" z;", on(api.Int), nil)
	}
	becomes(t, "return\n-x;", on(api.Int), map[code.Op]code.Op{code.Negate: code.NegateInt})
	becomes(t, "return -x;", on(api.Bool, api.Int), nil)
	becomes(t, "return -y;", on(api.Int), nil)
}

func TestJoin(t *testing.T) {
	quick := map[code.Op]code.Op{code.Add: code.Join}
	becomes(t, "return x\n+ y;", on(api.String, api.String), quick)
	becomes(t, "return \"a\" + x + \"b\";", on(api.String), quick)
	becomes(t, "return x[0] + \"b\";", on(api.String), nil)
	becomes(t, "return x + y;", on(api.String, api.Int), nil)
	becomes(t, "return x + y;", on(api.String), nil)
	becomes(t, "return x < y;", on(api.String, api.String), nil)
}

// What is known of a value that was worked out.
func TestWhatIsWorkedOut(t *testing.T) {
	quick := map[code.Op]code.Op{code.Multiply: code.MultiplyInts}
	for _, e := range []string{"len(y)", "(y - y)", "-y", "(1 + y)", "(y + 1)", "push(y, x)", "x", "7"} {
		becomes(t, "return x * "+e+";", on(api.Int), quick)
		becomes(t, "return "+e+" * x;", on(api.Int), quick)
		becomes(t, "return [y, "+e+" * x, y];", on(api.Int), quick)
	}
	for _, e := range []string{"v", "y", "y[0]", "g(x, x)", "push(x, y)", "(y == x)", "!y", "(y && y)", "[x]", "(y + y)", "(\"a\" + y)", "null", "\"a\"", "true", "[1][0]"} {
		becomes(t, "return x * "+e+";", on(api.Int), nil)
		becomes(t, "return "+e+" * x;", on(api.Int), nil)
	}
	// What lies below is still known behind what takes away many, or jumps.
	for _, e := range []string{"[y, y, y]", "g(y, y)", "(y && y || y)", "push(y, y)", "y[0]", "!y", "(y == y)", "v", "null"} {
		becomes(t, "return [x, "+e+" == 1][0] == x * x;", on(api.Int), quick)
		becomes(t, "return x * len("+e+");", on(api.Int), quick)
	}
}

func TestWhatIsDoneAheadDoesNotMatter(t *testing.T) {
	quick := map[code.Op]code.Op{code.Multiply: code.MultiplyInts}
	for _, ahead := range []string{"print y;", "v = y;", "y[0] = 1;", "y;", "let z = y;", "if y { print 1; }", "if y { return y; } else { return; }", "while y { if y { break; } continue; }", "return y;", "y = x;", "if true { let x = y; x = null; }", "g(y, v);", "push(y, 1);"} {
		becomes(t, ahead+" return x * 2;", on(api.Int), quick)
		becomes(t, ahead+" return y * 2;", on(api.Int), nil)
	}
}

func TestParametersThatAreSet(t *testing.T) {
	for _, body := range []string{"x = y; return x * 2;", "print x * 2; x = 3;", "if y { x = null; } return x * 2;", "while x * 2 == 2 { x = 2; }"} {
		becomes(t, body, on(api.Int), nil)
		becomes(t, body, api.Bet{Kinds: []int{api.Same}, Ints: []int64{4}}, nil)
	}
}

func TestKnownValues(t *testing.T) {
	program := written(t, "return [x, y, v];")
	for _, c := range []struct {
		bet  api.Bet
		want value.Value
	}{
		{api.Bet{Kinds: []int{api.Any, api.Same}, Ints: []int64{5, 6}}, value.OfInt(6)},
		{api.Bet{Kinds: []int{api.Any, api.Same}, Ints: []int64{5}}, value.OfInt(0)},
		{api.Bet{Kinds: []int{api.Any, api.Null}, Ints: []int64{5, 6}}, value.Value{}},
	} {
		steps := slices.Clone(program.Functions[0].Body.Steps)
		steps[1] = code.Instruction{Op: code.Constant, Value: c.want}
		if got := New(program, c.bet).Body.Steps; !slices.Equal(got, steps) {
			t.Errorf("with %+v: %+v, want %+v", c.bet, got, steps)
		}
	}
}

func TestFits(t *testing.T) {
	list := value.OfList(&value.List{})
	values := []value.Value{{}, value.OfBool(false), value.OfBool(true), value.OfInt(0), value.OfInt(7), value.OfString(""), value.OfString("0"), list}
	for kind, want := range map[int]string{
		api.Any: "yyyyyyyy", api.Int: "nnnyynnn", api.String: "nnnnnyyn", api.Bool: "nyynnnnn", api.Null: "ynnnnnnn", api.Array: "nnnnnnny", api.Same: "nnnnynnn", 7: "yyyyyyyy", -1: "yyyyyyyy",
	} {
		form := New(written(t, ""), api.Bet{Kinds: []int{api.Any, kind, api.Null}, Ints: []int64{8, 7, 8}})
		if form.Params() != 2 {
			t.Fatalf("%d parameters", form.Params())
		}
		for i, v := range values {
			if got := form.Fits(1, v); got != (want[i] == 'y') {
				t.Errorf("kind %d fits %+v: %v", kind, v, got)
			}
			if !form.Fits(0, v) {
				t.Errorf("ANY does not fit %+v", v)
			}
		}
	}
}

func TestTheProgramIsNotChanged(t *testing.T) {
	body := "print x * y + 1; x = \"a\" + x; return -y;"
	program := written(t, body)
	for kind := range 7 {
		form := New(program, on(kind, kind))
		for i := range form.Body.Steps {
			form.Body.Steps[i] = code.Instruction{}
		}
	}
	if !reflect.DeepEqual(program, written(t, body)) {
		t.Errorf("the program is %+v", program)
	}
}
