package gambit_test

import (
	"math"
	"reflect"
	"slices"
	"testing"
	"unsafe"

	"gambit/api"
)

// busy is a program that has something of everything that a run keeps: variables, arrays, lines, fuel, cells.
const busy = `let a = [1, [2]]; let n = 0; let s = "x";
fn f(x) { n = n + 1; push(a, x); s = s + "y"; return [x, n]; }
fn g(x, y) { if x > 0 { return g(x - 1, y); } return f(y); }
while n < 20 { print g(n, s); }
print a[1]; a[1] = 0; print len(a); print s;
g(n * 2, n);`

// strangeBets are such as mean something, and such as mean nothing.
func strangeBets() [][]api.Bet {
	many := make([]api.Bet, api.MaxBets+5)
	for i := range many {
		many[i] = api.Bet{Func: i % 3, After: i / 2, Kinds: []int{i % 8, 1}, Ints: []int64{int64(i)}}
	}
	spare := []api.Bet{{Kinds: []int{api.String, api.Bool, api.Null}[:1], Ints: []int64{1, 2, 3}[:1]}, {Func: 1, Kinds: []int{api.Same, api.Same, api.Null}[:2], Ints: []int64{0, 9}[:1]}, {Kinds: []int{api.Int}}}[:2]
	return [][]api.Bet{
		nil,
		{},
		{{}},
		{{Func: 0, After: 0, Kinds: []int{api.Int}}, {Func: 1, After: 2, Kinds: []int{api.Same, api.String}, Ints: []int64{2}}},
		{{Func: -1}, {Func: 2}, {Func: math.MaxInt}, {Func: math.MinInt, After: math.MinInt}},
		{{After: -1}, {After: math.MaxInt}, {After: math.MinInt, Kinds: []int{api.Int}}},
		{{Kinds: []int{-1, 7, math.MaxInt, math.MinInt, 1, 2, 3, 4, 5, 6}, Ints: []int64{math.MinInt64, math.MaxInt64}}},
		{{Kinds: []int{api.Same}}, {Kinds: []int{api.Same, api.Same, api.Same}, Ints: []int64{1}}, {Kinds: make([]int, 1000), Ints: make([]int64, 1000)}},
		many,
		make([]api.Bet, 10000),
		spare,
	}
}

func sameRun(one, two api.Result) bool {
	return slices.Equal(one.Out, two.Out) && one.Code == two.Code && one.Line == two.Line
}

// P1, P4, P6: whatever is bet, the program does the same.
func TestWhateverIsBet(t *testing.T) {
	for _, text := range []string{"", "print 1;", "fn f() { } f();", busy, "fn f(x, y, z) { return f(y, z, x); } f(1, null, []);", "while true { }"} {
		p := compiled(t, text)
		want := p.Run(nil)
		for i, bets := range strangeBets() {
			got := p.Run(bets)
			if !sameRun(got, want) {
				t.Errorf("Run of %q with bets %d: %+v, want %+v", text, i, got, want)
			}
			if n := len(p.Functions()); len(got.Fast) != n || len(got.Drops) != n {
				t.Errorf("Run of %q with bets %d: Fast %v, Drops %v of %d functions", text, i, got.Fast, got.Drops, n)
			}
		}
	}
}

// P2: no run leaves anything behind.
func TestRunsAgain(t *testing.T) {
	texts := []string{busy, "let a = [[]]; push(a[0], 1); push(a, 2); print a;", "let x = 1; fn f() { x = x + 1; return x; } print f(); print f();", "print f(); let x = 1; fn f() { return x; }", "fn f(n) { return f(n + 1); } print 1; f(0);", "print 1; while true { }", "let i = 0; while true { print i; i = i + 1; }", ""}
	for _, text := range texts {
		p := compiled(t, text)
		want := p.Run(nil)
		for i, bets := range append(strangeBets(), nil, nil) {
			p.Run(bets)
			for _, other := range texts {
				compiled(t, other).Run(bets)
			}
			if got := p.Run(nil); !reflect.DeepEqual(got, want) {
				t.Errorf("Run of %q behind runs with bets %d: %+v, want %+v", text, i, got, want)
			}
			if got := compiled(t, text).Run(nil); !reflect.DeepEqual(got, want) {
				t.Errorf("Run of %q compiled anew: %+v, want %+v", text, got, want)
			}
		}
	}
}

// P2: runs that are under way at one time have nothing from one another.
func TestRunsAtOnce(t *testing.T) {
	p := compiled(t, busy)
	all := strangeBets()
	var want []api.Result
	for _, bets := range all {
		want = append(want, p.Run(bets))
	}
	done := make(chan bool)
	for range 4 {
		for i, bets := range all {
			go func() { done <- reflect.DeepEqual(p.Run(bets), want[i]) }()
		}
	}
	for range 4 * len(all) {
		if !<-done {
			t.Errorf("a run beside others answers something else")
		}
	}
}

// copyBets copies with all spare room.
func copyBets(bets []api.Bet) []api.Bet {
	bets = slices.Clone(bets[:cap(bets)])
	for i := range bets {
		bets[i].Kinds = slices.Clone(bets[i].Kinds[:cap(bets[i].Kinds)])
		bets[i].Ints = slices.Clone(bets[i].Ints[:cap(bets[i].Ints)])
	}
	return bets
}

// P2: bets are not changed, and not kept.
func TestBetsAreNotChanged(t *testing.T) {
	p := compiled(t, busy)
	want := p.Run(nil)
	for i, bets := range strangeBets() {
		before := copyBets(bets)
		p.Run(bets[:len(bets)/2])
		p.Run(bets)
		if after := copyBets(bets); !reflect.DeepEqual(after, before) {
			t.Errorf("bets %d are %v behind a run, were %v", i, after, before)
		}
		for j := range bets {
			bets[j] = api.Bet{Func: 1, Kinds: []int{api.Null}}
		}
		if got := p.Run(nil); !reflect.DeepEqual(got, want) {
			t.Errorf("Run behind bets %d: %+v, want %+v", i, got, want)
		}
	}
}

// P2: what a run answered stays when its bets are changed, and other bets like them mean the same.
func TestBetsAreNotKept(t *testing.T) {
	p := compiled(t, busy)
	for i := range strangeBets() {
		bets := strangeBets()[i]
		want := compiled(t, busy).Run(strangeBets()[i])
		got := p.Run(bets)
		for j := range bets {
			for k := range bets[j].Kinds {
				bets[j].Kinds[k] = api.Null
			}
			for k := range bets[j].Ints {
				bets[j].Ints[k] = 77
			}
			bets[j].After++
		}
		if !reflect.DeepEqual(got, want) {
			t.Errorf("bets %d, changed behind the run: %+v, want %+v", i, got, want)
		}
		if got := p.Run(strangeBets()[i]); !reflect.DeepEqual(got, want) {
			t.Errorf("bets like %d: %+v, want %+v", i, got, want)
		}
	}
}

// P2: Out, Fast and Drops are new memory, each apart from the others.
func TestResultsAreNew(t *testing.T) {
	for _, text := range []string{busy, "print 1; print 2; print 3; fn a() { } fn b() { } fn c() { } fn d() { } fn e() { }", "print 1;", "fn f() { }", "fn f(x) { } f(1); f(null); print f(2); fn g(x) { } g(1);", ""} {
		for _, bets := range strangeBets() {
			holdNew(t, text, bets)
		}
	}
}

func holdNew(t *testing.T, text string, bets []api.Bet) {
	t.Helper()
	p := compiled(t, text)
	want := p.Run(bets)
	one, two := p.Run(bets), p.Run(bets)
	for i := range one.Out[:cap(one.Out)] {
		one.Out[:cap(one.Out)][i] = "spoilt"
	}
	for i := range one.Fast[:cap(one.Fast)] {
		one.Fast[:cap(one.Fast)][i] = -7
	}
	if slices.Contains(one.Drops[:cap(one.Drops)], -7) {
		t.Errorf("%q: Fast and Drops share memory", text)
	}
	for i := range one.Drops[:cap(one.Drops)] {
		one.Drops[:cap(one.Drops)][i] = -8
	}
	if slices.Contains(one.Fast[:cap(one.Fast)], -8) {
		t.Errorf("%q: Drops and Fast share memory", text)
	}
	if slices.Contains(two.Out[:cap(two.Out)], "spoilt") || !reflect.DeepEqual(two, want) {
		t.Errorf("%q: two results share memory: %+v", text, two)
	}
	if got := p.Run(bets); !reflect.DeepEqual(got, want) {
		t.Errorf("%q: Run behind a change of an older result: %+v, want %+v", text, got, want)
	}
}

// P2: the text is not kept for the run, where its strings are.
func TestTextIsNotKeptForRuns(t *testing.T) {
	memory := []byte("let s = \"first\"; fn f(x) { return x + \" second\"; } print s; print f(s); print \"third\"[0]; print [\"fourth\"];")
	p := compiled(t, unsafe.String(&memory[0], len(memory)))
	early := p.Run(nil)
	for i := range memory {
		memory[i] = '?'
	}
	for _, got := range []api.Result{early, p.Run(nil)} {
		if want := []string{"first", "first second", "t", "[fourth]"}; !slices.Equal(got.Out, want) {
			t.Errorf("Run = %q, want %q", got.Out, want)
		}
	}
}

// P4: without bets no call is fast and none is dropped.
func TestWithoutBets(t *testing.T) {
	got := compiled(t, busy).Run(nil)
	if !slices.Equal(got.Fast, []int{0, 0}) || !slices.Equal(got.Drops, []int{0, 0}) {
		t.Errorf("Fast %v, Drops %v, want zeros", got.Fast, got.Drops)
	}
}
