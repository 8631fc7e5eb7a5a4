package gambit_test

import (
	"testing"

	"gambit/api"
	"gambit/gambit"
)

// onAll bets one kind of all parameters of the first functions, at their first calls.
func onAll(kind int) []api.Bet {
	var bets []api.Bet
	for i := range api.MaxBets {
		bets = append(bets, api.Bet{Func: i % 5, After: i / 5, Kinds: []int{kind, kind, kind, kind}, Ints: []int64{2, 2, 2}})
	}
	return bets
}

// holdSame asks of a program to do with bets what it does without.
func holdSame(t *testing.T, p *gambit.Program, text string, want api.Result, bets []api.Bet) {
	t.Helper()
	if got := p.Run(bets); !sameRun(got, want) {
		t.Errorf("Run of %.300q with %+v: %.300q, %d in line %d; without: %.300q, %d in line %d", text, bets, got.Out, got.Code, got.Line, want.Out, want.Code, want.Line)
	}
}

// holdWhatever asks the same with bets of each kind, and of none.
func holdWhatever(t *testing.T, p *gambit.Program, text string, want api.Result) {
	t.Helper()
	for kind := api.Any - 1; kind <= api.Same+1; kind++ {
		holdSame(t, p, text, want, onAll(kind))
	}
}

// bodies are of functions with the parameters x and y, in lines of their own so that each error has another one.
func bodies() []string {
	all := []string{
		"return\n-x;", "return\n!\nx;", "return len\n(x);", "return x\n[\ny];", "x\n[\n0] = y; return x;", "x[\ny] = 1; return x;", "return push\n(x, y);", "return\nx\n&&\ny;", "return x\n||\ny;",
		"if\nx { return 1; } else { return 2; }", "while\nx {\nx = y; return x; }", "return [x, y, x];", "return x;", "return;", "print x; print\ny; return [[x]];",
		// more signs than one
		"return -x\n+ y\n* x\n- y;", "return x + y\n+ x;", "return x + (y\n+ y);", "return (x < y)\n== (y > x);", "return x < y\n&& y < x\n+ 3 || x == y;", "return x\n* 2 / y\n% 7;", "return 10\n/ (x\n- 2);", "return -(-x)\n- -y;", "return [x + y, x\n- y][0];", "return len(\"ab\") * x\n+ len([y]) * y;",
		"return x[0]\n+ x[0]\n+ y;", "return push([], x)\n+ push([], y);", "return \"a\"\n+ x + y;", "return 1\n+ x\n+ y;", "return x + y < y\n+ x;", "return (x == y) + (x\n!= y);", "return -x == y\n&& -y;", "return [x][0]\n+ y;",
		// parameters that are set, and others of their name
		"x = y; return x\n+ y;", "x = \"s\"\n+ x; return x;", "if x == 2 { x = null; } return x\n+ 1;", "let z = x; z = z\n+ y; x = z; return [x, y, z];", "if true { let x = \"in\"; print x + x; x = y; print x\n+ y; } return x\n+ x;", "let i = 0; while i < 3 { print x\n- i; if i == 1 { x = y; } i = i + 1; } return x;", "y = x; x = null; return y\n* y;",
		// jumps in and out of what is worked out
		"return (x == y || x\n< y) == true;", "return [x, x == 2 && y\n> 1, y\n+ x];", "return x\n+ y + len([x == y || x != y, x == x && y == y]);", "while x == y || x\n< y { if x == 2 { break; } x = x\n+ 1; continue; } return x\n- y;",
		// other calls
		"if y == null { return x; } return f(\ny, null);", "return g(x)\n+ g(y);", "return g(g(x)\n* y);", "g(x); return y\n- x;",
	}
	for _, sign := range []string{"+", "-", "*", "/", "%", "<", "<=", ">", ">=", "==", "!="} {
		all = append(all, "return x\n"+sign+"\ny;", "return x\n"+sign+"\n2;", "return 2\n"+sign+" y;", "return (x\n"+sign+"\ny) == (y\n"+sign+" x);")
	}
	return all
}

// P6: whatever is bet of values of all sorts, a function does the same with them.
func TestSameWhateverIsBet(t *testing.T) {
	values := []string{"0", "2", "-1", greatest, least, `""`, `"ab"`, "true", "false", "null", "[]", "[2, 3]"}
	ints := [][]int64{nil, {2, 2}, {-1, 2}}
	for _, body := range bodies() {
		for _, x := range values {
			for _, y := range values {
				text := "fn f(x, y) {\n" + body + " } fn g(x) { return\n-x; } print f(" + x + ", " + y + ");"
				p := compiled(t, text)
				want := p.Run(nil)
				for kinds := range 7 * 7 {
					holdSame(t, p, text, want, []api.Bet{{Kinds: []int{kinds / 7, kinds % 7}, Ints: ints[kinds%3]}, bet(1, 0, kinds%7)})
				}
			}
		}
	}
}

// P6: strings that are too long to be joined, where it is known that they are strings.
func TestSameOfLongStrings(t *testing.T) {
	text := "fn f(x) { return x\n+ x; } let s = \"a\"; while true { s = f(s); print len(s); }"
	one(t, text, 7, 0, bet(0, 0, api.String))
	ends(t, api.ErrMemory, 2, text, "2", "4", "8", "16", "32", "64")
}

// P6: a form that holds throughout a run in which calls of all sorts lie in one another.
func TestSameInBusyPrograms(t *testing.T) {
	for _, text := range []string{
		busy,
		"fn fib(n) { if n < 2 { return n; } return fib(n - 1) + fib(n - 2); } print fib(13);",
		"fn gcd(a, b) { while b != 0 { let r = a % b; a = b; b = r; } return a; } let i = 0; while i < 50 { print gcd(i * 7 % 30, 12); i = i + 1; }",
		"fn sum(a, n) { let s = 0; while n > 0 { n = n - 1; s = s + a[n]; } return s; } print sum([1, 2, 3], 3); print sum([], 0); print sum([\"a\"], 1);",
		"fn add(a, b) { return a + b; } print add(1, 2); print add(\"a\", \"b\"); print add(1, \"b\");",
		"fn deep(x) { if x == 60 { return x; } return deep(x + 1); } print deep(25); print deep(10);",
	} {
		p := compiled(t, text)
		want := p.Run(nil)
		holdWhatever(t, p, text, want)
		for _, bets := range strangeBets() {
			holdSame(t, p, text, want, bets)
		}
		for after := range 30 {
			for kind := range 7 {
				holdSame(t, p, text, want, []api.Bet{{After: after, Kinds: []int{kind}}, {After: after + 1, Kinds: []int{kind, api.Int}, Ints: []int64{int64(after)}}})
			}
		}
	}
}
