package gambit_test

import (
	"math"
	"reflect"
	"slices"
	"strings"
	"testing"

	"gambit/api"
)

func bet(function, after int, kinds ...int) api.Bet {
	return api.Bet{Func: function, After: after, Kinds: kinds}
}

// same bets on the ints of one or more parameters.
func same(function, after int, ints ...int64) api.Bet {
	b := api.Bet{Func: function, After: after, Ints: ints}
	for range ints {
		b.Kinds = append(b.Kinds, api.Same)
	}
	return b
}

// fares asks how many calls of each function are fast, and how often a form is dropped; all else is to be as without bets.
func fares(t *testing.T, text string, fast, drops []int, bets ...api.Bet) {
	t.Helper()
	p := compiled(t, text)
	got, without := p.Run(bets), p.Run(nil)
	if !slices.Equal(got.Fast, fast) || !slices.Equal(got.Drops, drops) {
		t.Errorf("Run of %.300q with %+v: Fast %v, Drops %v; want %v, %v", text, bets, got.Fast, got.Drops, fast, drops)
	}
	if !sameRun(got, without) {
		t.Errorf("Run of %.300q with %+v: %.300q, %d in line %d; without: %.300q, %d in line %d", text, bets, got.Out, got.Code, got.Line, without.Out, without.Code, without.Line)
	}
}

// one is of programs with one function.
func one(t *testing.T, text string, fast, drops int, bets ...api.Bet) {
	t.Helper()
	fares(t, text, []int{fast}, []int{drops}, bets...)
}

// calls writes a call with each of some arguments.
func calls(args ...string) string {
	text := "fn f(x) { return [x, x == x]; } "
	for _, arg := range args {
		text += "print f(" + arg + "); "
	}
	return text
}

// P5: the example of the document.
func TestTheExample(t *testing.T) {
	text := "fn f(x) { return x + x; } print f(2); print f(\"a\"); print f(3);"
	one(t, text, 0, 0)
	one(t, text, 1, 1, bet(0, 0, api.Int))
	one(t, text, 2, 1, bet(0, 0, api.Int), bet(0, 2, api.Int))
	prints(t, text, "4", "aa", "6")
}

// valuesOf has for each kind that can be bet values that are of it.
func valuesOf() map[int][]string {
	return map[int][]string{
		api.Int:    {"0", "1", "-1", greatest, least, "1 + 1", "len(\"\")"},
		api.String: {`""`, `"0"`, `"a" + "b"`, `"abc"[1]`},
		api.Bool:   {"true", "false", "1 < 2", "!true"},
		api.Null:   {"null", "push([], null)", "[null][0]"},
		api.Array:  {"[]", "[1]", "[[]]", "[[1]][0]"},
	}
}

// P5: each kind holds of its values, and of no others.
func TestKinds(t *testing.T) {
	for kind, own := range valuesOf() {
		all := calls(own...)
		one(t, all, len(own), 0, bet(0, 0, kind))
		one(t, all, len(own)-1, 0, bet(0, 1, kind))
		for other, values := range valuesOf() {
			if other == kind {
				continue
			}
			for _, v := range values {
				one(t, calls(v), 0, 1, bet(0, 0, kind))
				one(t, calls(own[0], v), 1, 1, bet(0, 0, kind))
				one(t, calls(own[0], v, own[0]), 1, 1, bet(0, 0, kind))
			}
		}
	}
}

// P5: ANY, and numbers that are no kind, hold of all values.
func TestNoKind(t *testing.T) {
	var all []string
	for _, values := range valuesOf() {
		all = append(all, values...)
	}
	for _, kind := range []int{api.Any, 7, 8, -1, -6, 99, 256 + api.Int, 1<<32 + api.Int, math.MaxInt, math.MinInt} {
		one(t, calls(all...), len(all), 0, bet(0, 0, kind))
		one(t, calls(all...), len(all), 0, api.Bet{Kinds: []int{kind}, Ints: []int64{5}})
	}
	one(t, calls(all...), len(all), 0, bet(0, 0))
	one(t, calls(all...), len(all), 0, api.Bet{Ints: []int64{1, 2}})
}

// P5: SAME holds of one int alone.
func TestSame(t *testing.T) {
	one(t, calls("5", "5", "4", "5"), 2, 1, same(0, 0, 5))
	one(t, calls("2 + 3", "10 / 2", "-5"), 2, 1, same(0, 0, 5))
	one(t, calls("6"), 0, 1, same(0, 0, 5))
	one(t, calls(greatest, greatest), 2, 0, same(0, 0, math.MaxInt64))
	one(t, calls(least, greatest), 1, 1, same(0, 0, math.MinInt64))
	one(t, calls("4294967297"), 0, 1, same(0, 0, 1))
	for _, other := range []string{`"5"`, `""`, "true", "false", "null", "[5]", "[]"} {
		one(t, calls("5", other), 1, 1, same(0, 0, 5))
		one(t, calls("0", other), 1, 1, same(0, 0, 0))
		one(t, calls(other), 0, 1, bet(0, 0, api.Same))
	}
}

// P5: the int of SAME is the one at its own place, and 0 if there is none.
func TestSameWithoutItsInt(t *testing.T) {
	one(t, calls("0", "0", "1"), 2, 1, bet(0, 0, api.Same))
	one(t, calls("0", "1"), 1, 1, api.Bet{Kinds: []int{api.Same}, Ints: []int64{}})
	f := "fn f(x, y, z) { return [x, y, z, x * 2 - z]; } "
	second := api.Bet{Kinds: []int{api.Any, api.Same}, Ints: []int64{7, 8}}
	one(t, f+"f(1, 8, 2); f(7, 8, 2); f(8, 7, 2);", 2, 1, second)
	third := api.Bet{Kinds: []int{api.Same, api.Any, api.Same}, Ints: []int64{7, 8}}
	one(t, f+"print f(7, 1, 0); print f(7, 8, 0); print f(7, 1, 8);", 2, 1, third)
	// Ints of other kinds mean nothing.
	one(t, f+"print f(7, 1, 0); print f(1, 7, 0); print f(0, 0, 7);", 3, 0, api.Bet{Kinds: []int{api.Int, api.Int, api.Any}, Ints: []int64{9, 9, 9, 9}})
	// One that lies in spare room is none.
	spare := []int64{5, 6}
	one(t, calls("0", "5"), 1, 1, api.Bet{Kinds: []int{api.Same}, Ints: spare[:0]})
}

// P5: fewer and more Kinds than there are parameters.
func TestFewerAndMoreKinds(t *testing.T) {
	f := "fn f(x, y) { return [y, x]; } print f(1, \"a\"); print f(2, null); print f(null, 1); print f(3, 3);"
	one(t, f, 2, 1, bet(0, 0, api.Int))
	one(t, f, 1, 1, bet(0, 0, api.Int, api.String))
	one(t, f, 2, 1, bet(0, 0, api.Int, api.Any, api.Null, api.Same))
	one(t, f, 1, 1, bet(0, 0, api.Any, api.String, api.Bool))
	one(t, f, 4, 0, bet(0, 0))
	one(t, calls("1", "2", "true"), 2, 1, bet(0, 0, api.Int, api.Bool, api.Null, api.Array))
	one(t, calls("1"), 1, 0, api.Bet{Kinds: []int{api.Int, api.Same}, Ints: []int64{7, 7}})
	none := "fn f() { return 1; } print f(); print f();"
	one(t, none, 2, 0, bet(0, 0))
	one(t, none, 2, 0, bet(0, 0, api.Int, api.Bool))
	one(t, none, 1, 0, same(0, 1, 3, 4))
	// Kinds that lie in spare room are none.
	spare := []int{api.Int, api.Bool}
	one(t, f, 2, 1, api.Bet{Kinds: spare[:1]})
	one(t, f, 4, 0, api.Bet{Kinds: spare[:0]})
}

// P5: all that is bet must hold, each of its own argument.
func TestSeveralParameters(t *testing.T) {
	f := "fn f(a, b, c, d, e) { return [e, d, c, b, a]; } "
	kinds := []int{api.Int, api.String, api.Bool, api.Null, api.Array}
	args := []string{"1", `"s"`, "true", "null", "[2]"}
	right := "print f(" + strings.Join(args, ", ") + "); "
	one(t, f+right+right, 2, 0, bet(0, 0, kinds...))
	for i := range args {
		for j := range args {
			wrong := slices.Clone(args)
			wrong[i], wrong[j] = wrong[j], wrong[i]
			if i != j {
				one(t, f+right+"print f("+strings.Join(wrong, ", ")+"); "+right, 1, 1, bet(0, 0, kinds...))
			}
		}
	}
}

// P5: what is bet is of the arguments, whatever a function does with its parameters later.
func TestParametersThatAreSet(t *testing.T) {
	one(t, "fn f(x) { x = 1; return x; } print f(1); print f(null); print f(1);", 1, 1, bet(0, 0, api.Int))
	one(t, "fn f(x) { x = null; return x; } print f(1); print f(2); print f(null);", 2, 1, bet(0, 0, api.Int))
	one(t, "fn f(x) { x = x + 1; return x; } print f(4); print f(4); print f(5);", 2, 1, same(0, 0, 4))
	one(t, "fn f(x, y) { x = y; y = 0; return x; } print f(1, true); print f(true, true); print f(1, true);", 1, 1, bet(0, 0, api.Int, api.Bool))
	one(t, "fn f(x) { if true { let x = null; print x; } return x; } print f(1); print f(null);", 1, 1, bet(0, 0, api.Int))
	one(t, "let a = [1]; fn f(x) { a = null; push(x, 1); return x; } print f(a); print f(a);", 1, 1, bet(0, 0, api.Array))
}

// P5: After is the number of the call, from 0 on.
func TestAfter(t *testing.T) {
	five := calls("1", "2", "3", "4", "5")
	for after := range 7 {
		one(t, five, max(0, 5-after), 0, bet(0, after, api.Int))
	}
	one(t, five, 0, 0, bet(0, -1), bet(0, math.MinInt), bet(0, math.MaxInt), bet(0, 5))
	// Calls of each function are counted for themselves, whatever they are.
	two := "fn f(x) { return x; } fn g(x) { return f(x); } f(1); g(2); f(3); g(4); g(\"a\");"
	fares(t, two, []int{3, 2}, []int{0, 0}, bet(0, 2), bet(1, 1))
	fares(t, two, []int{2, 1}, []int{1, 1}, bet(0, 2, api.Int), bet(1, 1, api.Int))
	fares(t, two, []int{0, 0}, []int{0, 0}, bet(0, 5), bet(1, 3))
	fares(t, two, []int{1, 1}, []int{0, 0}, bet(0, 4), bet(1, 2))
	// Slow calls count, and those that drop a form.
	one(t, calls("1", "null", "2", "3"), 3, 1, bet(0, 0, api.Int), bet(0, 2, api.Int))
	one(t, calls("1", "null", "2", "3"), 2, 1, bet(0, 0, api.Int), bet(0, 3, api.Int))
}

// P5: Func is the place of the function in the text.
func TestFunc(t *testing.T) {
	text := "c(1); fn c(x) { return x; } b(1); b(2); fn b(x) { return x; } fn a(x) { return x; } a(1); a(2); a(3);"
	fares(t, text, []int{1, 0, 0}, []int{0, 0, 0}, bet(0, 0))
	fares(t, text, []int{0, 2, 0}, []int{0, 0, 0}, bet(1, 0))
	fares(t, text, []int{0, 0, 3}, []int{0, 0, 0}, bet(2, 0))
	fares(t, text, []int{1, 0, 0}, []int{0, 1, 0}, bet(1, 0, api.Null), bet(0, 0))
	fares(t, text, []int{0, 0, 0}, []int{0, 0, 0}, bet(3, 0), bet(-1, 0), bet(math.MaxInt, 0), bet(math.MinInt, 0), bet(1<<32, 0))
	fares(t, "print 1;", nil, nil, bet(0, 0), bet(-1, 0))
	fares(t, "fn f() { }", []int{0}, []int{0}, bet(0, 0))
}

// P5: of several bets on one call the last one of the list makes the form.
func TestTheLastOfSeveral(t *testing.T) {
	text := calls("1", "1", "\"a\"", "1")
	one(t, text, 2, 1, bet(0, 0, api.String), bet(0, 0, api.Int))
	one(t, text, 0, 1, bet(0, 0, api.Int), bet(0, 0, api.String))
	one(t, text, 4, 0, bet(0, 0, api.String), bet(0, 0, api.Int), bet(0, 0))
	one(t, text, 0, 1, bet(0, 0), bet(0, 0, api.Int), bet(0, 0, api.Null))
	// Others between them do not matter, nor where those of other calls stand.
	one(t, text, 2, 1, bet(0, 0, api.Null), bet(1, 0), bet(0, 9), bet(0, 0, api.Int), bet(0, -1), bet(2, 0, api.Null))
	one(t, text, 2, 2, bet(0, 3, api.Null), bet(0, 0, api.Int))
	one(t, text, 3, 1, bet(0, 3, api.Null), bet(0, 0, api.Int), bet(0, 3, api.Int))
	// Their kinds are not put together.
	one(t, text, 4, 0, bet(0, 0, api.Int), bet(0, 0))
}

// P5: a form stands in the place of an older one, which is not dropped.
func TestInTheOldOnesPlace(t *testing.T) {
	one(t, calls("1", "\"a\"", "2"), 2, 1, bet(0, 0, api.Int), bet(0, 1, api.String))
	one(t, calls("1", "\"a\"", "2"), 3, 0, bet(0, 0, api.Int), bet(0, 1, api.String), bet(0, 2, api.Int))
	one(t, calls("1", "2", "3"), 3, 0, bet(0, 0, api.Int), bet(0, 1, api.Int), bet(0, 2))
	one(t, calls("1", "2", "3"), 1, 1, bet(0, 0, api.Int), bet(0, 1, api.Null))
	one(t, calls("1", "2", "3", "4"), 2, 1, bet(0, 0, api.Int), bet(0, 1, api.Null), bet(0, 3, api.Int))
	one(t, calls("4", "5", "5", "6"), 3, 1, same(0, 0, 4), same(0, 1, 5))
}

// P5: a form that was dropped is gone until one is made again.
func TestDroppedAndMadeAgain(t *testing.T) {
	one(t, calls("1", "null", "1", "1"), 1, 1, bet(0, 0, api.Int))
	one(t, calls("1", "null", "1", "null", "1", "null"), 1, 1, bet(0, 0, api.Int))
	one(t, calls("1", "null", "1", "1"), 3, 1, bet(0, 0, api.Int), bet(0, 2, api.Int))
	one(t, calls("1", "null", "1", "null", "1"), 2, 2, bet(0, 0, api.Int), bet(0, 2, api.Int))
	one(t, calls("null", "null", "null"), 0, 3, bet(0, 0, api.Int), bet(0, 1, api.Int), bet(0, 2, api.Int))
	one(t, calls("null", "null", "null"), 1, 2, bet(0, 0, api.Int), bet(0, 1, api.Int), bet(0, 2, api.Null))
	one(t, calls("1", "null", "1"), 2, 1, bet(0, 0, api.Int), bet(0, 1, api.Null), bet(0, 2, api.Null), bet(0, 2, api.Int), bet(0, 0, api.Bool))
}

// P5: functions that call themselves.
func TestRecursion(t *testing.T) {
	down := "fn f(n) { if n == 0 { return 0; } return n + f(n - 1); } print f(10);"
	one(t, down, 11, 0, bet(0, 0, api.Int))
	one(t, down, 6, 0, bet(0, 5, api.Int))
	one(t, down, 1, 1, same(0, 0, 10))
	one(t, down, 1, 1, same(0, 3, 7))
	one(t, down, 0, 1, same(0, 3, 6))
	one(t, down, 3, 1, same(0, 0, 10), same(0, 1, 9), same(0, 2, 8), bet(0, 3, api.Null))
	// A call that is fast goes on when its form is dropped or another one stands in its place.
	mixed := "fn f(x) { let y = x + x; if y == 4 { f(\"a\"); } if y == \"aa\" { f(3); } print [x, y, x + x]; return x; } f(2); f(4);"
	one(t, mixed, 1, 1, bet(0, 0, api.Int))
	one(t, mixed, 1, 1, same(0, 0, 2))
	one(t, mixed, 4, 0, bet(0, 0, api.Int), bet(0, 1, api.String), bet(0, 2, api.Int))
	one(t, mixed, 4, 0, same(0, 0, 2), bet(0, 1, api.String), same(0, 2, 3), same(0, 3, 4))
	// Arguments are done ahead of the call that they are of.
	one(t, "fn f(x) { return x; } f(f(f(1)));", 2, 0, bet(0, 1, api.Int))
	one(t, "fn f(x) { return [x]; } f(f(f(1)));", 1, 1, bet(0, 0, api.Int))
	both := "fn f(n) { if n == 0 { return g(n); } return g(n - 1); } fn g(n) { if n > 0 { return f(n - 1); } return \"end\"; } print f(7); print g(null);"
	fares(t, strings.Replace(both, "n > 0", "n != null && n > 0", 1), []int{4, 4}, []int{0, 1}, bet(0, 0, api.Int), bet(1, 0, api.Int))
}

// P5: calls that were under way when something went wrong count.
func TestUnderWay(t *testing.T) {
	for _, wrong := range []string{"1 / 0", "-null", "[][0]", "len(0)", "[1][x]", "x + \"a\"", "x % (x - 5)"} {
		text := "fn f(x) { if x < 5 { return f(x + 1); } return " + wrong + "; } print f(3);"
		one(t, text, 3, 0, bet(0, 0, api.Int))
		one(t, text, 1, 0, bet(0, 2, api.Int))
		one(t, text, 1, 0, same(0, 2, 5))
		one(t, text, 0, 1, bet(0, 2, api.Null))
		one(t, text, 1, 1, same(0, 0, 3))
	}
	one(t, "fn f(x) { return -x; } f(1); f(null); f(2);", 1, 1, bet(0, 0, api.Int))
	one(t, "fn f(x) { return -x; } f(1); f(null); f(2);", 2, 0, bet(0, 0))
	one(t, "fn f() { while true { } } f();", 1, 0, bet(0, 0))
	one(t, "fn f(x) { push(x, x); return f(x); } f([]);", api.MaxDepth, 0, bet(0, 0, api.Array))
	// A call whose arguments went wrong has not begun.
	one(t, "fn f(x) { return x; } f(1); f(1 / 0);", 1, 0, bet(0, 0))
	one(t, "fn f(x) { return x; } f(f(1) + null);", 1, 0, bet(0, 0))
}

// P5: a call that is ErrDepth is none.
func TestTooDeepIsNoCall(t *testing.T) {
	one(t, "fn f() { return f(); } f();", api.MaxDepth, 0, bet(0, 0))
	down := "fn f(n) { return f(n + 1); } f(1);"
	last := int64(api.MaxDepth)
	one(t, down, 1, 0, same(0, api.MaxDepth-1, last))
	one(t, down, 0, 0, same(0, api.MaxDepth, last+1))
	one(t, down, 0, 0, bet(0, api.MaxDepth, api.Null))
	one(t, down, 0, 1, bet(0, api.MaxDepth-1, api.Null))
	one(t, "fn f(n) { if n == "+number(api.MaxDepth)+" { f(null); } f(n + 1); } f(1);", api.MaxDepth, 0, bet(0, 0, api.Int))
}

// P5: a call that is ErrFuel is none.
func TestWithoutFuelIsNoCall(t *testing.T) {
	half := api.MaxFuel / 2
	loop := "fn f(x) { } let i = 0; while true { i = i + 1; f(i); }"
	one(t, loop, half, 0, bet(0, 0, api.Int))
	one(t, loop, 1, 0, bet(0, half-1, api.Int))
	one(t, loop, 0, 0, bet(0, half, api.Int))
	full := "fn f(x) { } " + times(api.MaxFuel-1, "")
	one(t, full+"f(1); f(null);", 1, 0, bet(0, 0, api.Int))
	one(t, full+"f(1); f(null);", 0, 0, bet(0, 1), bet(0, 1, api.Int))
	one(t, times(api.MaxFuel, "")+"f(null); fn f(x) { }", 0, 0, bet(0, 0, api.Int))
	// ErrFuel is told ahead of ErrDepth, and is no call either.
	one(t, "fn f() { return f(); } "+times(api.MaxFuel-api.MaxDepth, "")+"f();", api.MaxDepth, 0, bet(0, 0))
	one(t, "fn f() { return f(); } "+times(api.MaxFuel-3, "")+"f();", 3, 0, bet(0, 0))
}

// P4: the first MaxBets of the list count, those that mean nothing too.
func TestMostBets(t *testing.T) {
	text := calls("1", "\"a\"", "2")
	for _, nothing := range []api.Bet{bet(1, 0), bet(-1, 0), bet(0, -1), bet(0, 3), bet(math.MaxInt, math.MaxInt)} {
		before := slices.Repeat([]api.Bet{nothing}, api.MaxBets-1)
		one(t, text, 3, 0, append(slices.Clone(before), bet(0, 0))...)
		one(t, text, 3, 0, append([]api.Bet{bet(0, 0)}, before...)...)
		one(t, text, 0, 0, append(slices.Clone(before), nothing, bet(0, 0))...)
		one(t, text, 1, 1, append(slices.Clone(before), bet(0, 0, api.Int), bet(0, 0))...)
		one(t, text, 1, 1, append(slices.Clone(before), bet(0, 0, api.Int), bet(0, 1), bet(0, 2))...)
		one(t, text, 0, 0, append(slices.Repeat(before, 50), bet(0, 0))...)
	}
	nulls := slices.Repeat([]api.Bet{bet(0, 0, api.Null)}, api.MaxBets)
	one(t, text, 0, 1, append(slices.Clone(nulls), bet(0, 0))...)
	one(t, text, 3, 0, append(slices.Clone(nulls[1:]), bet(0, 0))...)
	// Each one of so many counts.
	var all []api.Bet
	args := make([]string, api.MaxBets+2)
	for i := range args {
		all = append(all, same(0, i, int64(i)))
		args[i] = number(i)
	}
	one(t, calls(args...), api.MaxBets, 1, all...)
	// What lies in spare room is not in the list.
	one(t, text, 0, 0, []api.Bet{bet(0, 0)}[:0]...)
}

// P2: a form that one run made is not there in the next, and the calls are counted anew.
func TestFormsAreNotLeftBehind(t *testing.T) {
	for _, text := range []string{calls("1", "2", "\"a\"", "3"), busy, "fn f(x) { return f(x); } f(1);", "fn f(x) { return -x; } f(1); f(null);"} {
		p := compiled(t, text)
		without := p.Run(nil)
		early := bet(0, 0, api.Int)
		want := [2]api.Result{p.Run([]api.Bet{early}), compiled(t, text).Run([]api.Bet{bet(0, 1)})}
		for range 3 {
			got := [2]api.Result{p.Run([]api.Bet{early}), p.Run([]api.Bet{bet(0, 1)})}
			if !reflect.DeepEqual(got, want) {
				t.Errorf("runs of %q with bets, once more: %+v, want %+v", text, got, want)
			}
			if got := p.Run(nil); !reflect.DeepEqual(got, without) {
				t.Errorf("Run of %q behind one with bets: %+v, want %+v", text, got, without)
			}
		}
		for _, n := range append(without.Fast, without.Drops...) {
			if n != 0 {
				t.Errorf("Run of %q without bets: %+v", text, without)
			}
		}
	}
}
