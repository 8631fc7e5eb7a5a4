package gambit_test

import (
	"slices"
	"strconv"
	"testing"

	"gambit/api"
	"gambit/gambit"
)

func compiled(t *testing.T, text string) *gambit.Program {
	t.Helper()
	p, fault := gambit.Compile(text)
	if p == nil {
		t.Fatalf("Compile(%.300q): fault %+v", text, fault)
	}
	return p
}

// ends asks for what a program prints, and for how it ends, whatever is bet.
func ends(t *testing.T, code api.Errno, line int, text string, out ...string) {
	t.Helper()
	p := compiled(t, text)
	got := p.Run(nil)
	holdWhatever(t, p, text, got)
	if got.Code != code || got.Line != line || !slices.Equal(got.Out, out) {
		t.Errorf("Run of %.300q: %.300q, %d in line %d; want %.300q, %d in line %d", text, got.Out, got.Code, got.Line, out, code, line)
	}
}

func prints(t *testing.T, text string, out ...string) {
	t.Helper()
	ends(t, api.OK, 0, text, out...)
}

// answers asks for what each of some expressions is, by printing them.
func answers(t *testing.T, pairs ...string) {
	t.Helper()
	for i := 0; i < len(pairs); i += 2 {
		prints(t, "print "+pairs[i]+";", pairs[i+1])
	}
}

// goesWrong asks for an error in line 2 of expressions that stand behind a line.
func goesWrong(t *testing.T, code api.Errno, exprs ...string) {
	t.Helper()
	for _, e := range exprs {
		ends(t, code, 2, "fn p(x) { print x; return x; } fn f() { } print 1; "+e+";", "1")
	}
}

func number(n int) string { return strconv.Itoa(n) }

const (
	greatest = "9223372036854775807"
	least    = "(-9223372036854775807 - 1)"
)

// P4: ints, which wrap round.
func TestInts(t *testing.T) {
	answers(t, "1 + 2", "3", "1 - 2", "-1", "3 * -4", "-12", "0", "0", "007", "7", "- - 5", "5", "-0", "0",
		"7 / 2", "3", "7 / -2", "-3", "-7 / 2", "-3", "-7 / -2", "3", "0 / 5", "0", "1 / 2", "0", "-1 / 2", "0",
		"7 % 2", "1", "7 % -2", "1", "-7 % 2", "-1", "-7 % -2", "-1", "6 % 3", "0", "-6 % 3", "0",
		"2 - 3 - 4", "-5", "100 / 10 / 5", "2", "100 / (10 / 5)", "50", "7 % 4 * 2", "6", "2 + 3 * 4", "14", "(2 + 3) * 4", "20", "-2 + 3", "1", "-(2 + 3)", "-5")
	answers(t, greatest, greatest, least, "-"+greatest[:18]+"8", greatest+" + 1 == "+least, "true", least+" - 1 == "+greatest, "true",
		"-"+least+" == "+least, "true", least+" * -1 == "+least, "true", greatest+" * 2", "-2", greatest+" * "+greatest, "1", least+" * "+least, "0",
		least+" / -1 == "+least, "true", least+" % -1", "0", least+" / 1 == "+least, "true", least+" / 2", "-4611686018427387904", least+" % 10", "-8", least+" % "+greatest, "-1", "5 / "+least, "0", "5 % "+least, "5",
		least+" < "+greatest, "true", greatest+" < "+least, "false", least+" < 0", "true")
}

// P4: strings.
func TestStrings(t *testing.T) {
	answers(t, `"a" + "b"`, "ab", `"" + ""`, "", `"a" + ("" + "bc")`, "abc", `len("")`, "0", `len("a\n\"\\")`, "4",
		`"abc"[0]`, "a", `"abc"[2]`, "c", `"abc"[1][0][0]`, "b", `len("abc"[1])`, "1", `"a\nb"[1]`, "\n", `"\"\\"`, `"\`, `("a" + "b")[1]`, "b")
	answers(t, `"a" < "b"`, "true", `"b" < "a"`, "false", `"a" < "a"`, "false", `"" < "a"`, "true", `"a" < "ab"`, "true", `"ab" < "b"`, "true", `"Z" < "a"`, "true", `"10" < "9"`, "true", `"~" > "\n"`, "true",
		`"a" <= "a"`, "true", `"a" <= "b"`, "true", `"b" <= "a"`, "false", `"a" > "a"`, "false", `"b" > "a"`, "true", `"a" > "b"`, "false", `"a" >= "a"`, "true", `"b" >= "a"`, "true", `"a" >= "b"`, "false")
}

// P4: what asks two values, or for true or false.
func TestQuestions(t *testing.T) {
	answers(t, "1 < 2", "true", "2 < 2", "false", "3 < 2", "false", "1 <= 2", "true", "2 <= 2", "true", "3 <= 2", "false",
		"1 > 2", "false", "2 > 2", "false", "3 > 2", "true", "1 >= 2", "false", "2 >= 2", "true", "3 >= 2", "true", "-1 < 0", "true", "-2 > -1", "false")
	answers(t, "1 == 1", "true", "1 != 1", "false", "1 == 2", "false", "1 != 2", "true", `"a" == "a"`, "true", `"ab" == "a" + "b"`, "true", `"a" != "b"`, "true", `"" == ""`, "true",
		"true == true", "true", "true == false", "false", "true != false", "true", "null == null", "true", "null != null", "false", "[] == []", "false", "[1] != [1]", "true")
	sorts := []string{"0", "1", `""`, `"0"`, `"null"`, "false", "true", "null", "[]", "[0]"}
	for i, left := range sorts {
		for j, right := range sorts {
			same := strconv.FormatBool(i == j && i < 8)
			other := strconv.FormatBool(!(i == j && i < 8))
			answers(t, left+" == "+right, same, left+" != "+right, other)
		}
	}
	answers(t, "!true", "false", "!false", "true", "!!true", "true", "!(1 < 2)", "false", "1 < 2 || 1", "true", "1 < 2 == true", "true", "1 == 1 == true", "true", "1 != 2 != true", "false",
		"true && true", "true", "true && false", "false", "false && true", "false", "false && false", "false", "true || true", "true", "true || false", "true", "false || true", "true", "false || false", "false",
		"true || true && false", "true", "(true || true) && false", "false", "!true || true", "true", "!false && false", "false")
}

// P4: the right side is done just if the left one does not decide.
func TestWhatIsNotDone(t *testing.T) {
	answers(t, "false && 1", "false", "true || 1", "true", "false && 1 / 0 == 0", "false", "true || [][0]", "true", "false && 1 && null", "false", "true || 1 || null", "true", "true && false && 1", "false", "false || true || 1", "true")
	p := "fn p(x) { print x; return x; } "
	prints(t, p+"p(true) && p(false) && p(true) || p(true) || p(false);", "true", "false", "true")
	prints(t, p+"p(false) && p(1); p(true) || p(1);", "false", "true")
	prints(t, p+"if p(false) { p(1); } else { p(2); } if p(true) { p(3); } else { p(4); } if p(false) { p(5); } while p(false) { p(6); }", "false", "2", "true", "3", "false", "false")
}

// P4: what stands left is done first.
func TestOrder(t *testing.T) {
	p := "fn p(x) { print x; return x; } fn f(x, y, z) { print 0; return [x, y, z]; } "
	for _, sign := range []string{"+", "-", "*", "/", "%"} {
		prints(t, p+"p(1) "+sign+" p(2) "+sign+" p(3);", "1", "2", "3")
	}
	for _, sign := range []string{"<", "<=", ">", ">=", "==", "!="} {
		prints(t, p+"p(1) "+sign+" p(2);", "1", "2")
	}
	prints(t, p+"print p(1) + p(2) * p(3);", "1", "2", "3", "7")
	prints(t, p+"print [p(1), [p(2)], p(3)];", "1", "2", "3", "[1,[2],3]")
	prints(t, p+"print f(p(1), p(2), p(3));", "1", "2", "3", "0", "[1,2,3]")
	prints(t, p+"push(p([]), p(1)); print p([7, 8])[p(1)];", "[]", "1", "[7,8]", "1", "8")
	prints(t, p+"p([p(7), 8])[p(0) + p(1)] = p(9); let a = [[1], [2]]; p(a)[p(1)][p(0)] = p(3); print a;", "7", "[7,8]", "0", "1", "9", "[[1],[2]]", "1", "0", "3", "[[1],[3]]")
	prints(t, "let a = [1]; fn f() { a = [5, 6]; return 0; } a[f()] = 9; print a; a = [f(), a]; print a;", "[5,6]", "[0,[5,6]]")
	prints(t, "let a = 1; fn f() { a = a + 1; return a; } print a + f() + a; a = f() + a; print a;", "5", "6")
}

// P4: arrays, and what is shared.
func TestArrays(t *testing.T) {
	answers(t, "len([])", "0", "len([1, [2, 3]])", "2", "[5, 6][0]", "5", "[5, 6][1]", "6", "[[7, 8]][0][1]", "8", "push([], 3)", "3", "push([1], [2])", "[2]", "[1, 2][len([0])]", "2")
	prints(t, "let a = [1]; let b = a; push(b, 2); b[0] = 3; print a; print a == b; a = [3, 2]; print a == b; print b;", "[3,2]", "true", "false", "[3,2]")
	prints(t, "fn f(x) { push(x, 1); x[0] = 2; x = [9]; return x; } let a = [0]; print f(a); print a;", "[9]", "[2,1]")
	prints(t, "let a = [0]; let b = [a, a]; b[0][0] = 5; print b; push(b[1], 6); print a; b[0] = 1; print b; print a;", "[[5],[5]]", "[5,6]", "[1,[5,6]]", "[5,6]")
	prints(t, "fn f() { return [0]; } let a = f(); a[0] = 1; print f(); print a; print f() == f();", "[0]", "[1]", "false")
	prints(t, "let all = []; let i = 0; while i < 3 { let a = [i]; push(all, a); push(a, a == all[0]); i = i + 1; } print all;", "[[0,true],[1,false],[2,false]]")
	prints(t, "let a = []; let b = push(a, a); print b == a; print a[0] == a; print a[0][0][0] == a; a[0] = 1; print b;", "true", "true", "true", "[1]")
	prints(t, "let a = [1, 2]; let b = [a[0], a]; a[0] = 7; print b; let i = 1; let c = [i, i]; i = 2; print c;", "[1,[7,2]]", "[1,1]")
	prints(t, "let a = [1]; fn f() { return a; } f()[0] = 2; print a; print push(f(), 3); print a; print f() == a;", "[2]", "3", "[2,3]", "true")
	prints(t, "let s = \"ab\"; let r = s; s = s + \"c\"; print r; print s;", "ab", "abc")
}

// P4: how values are printed.
func TestLines(t *testing.T) {
	prints(t, "")
	prints(t, "// nothing")
	prints(t, "fn f() { print 1; }")
	prints(t, `print 0; print -1; print "x y"; print ""; print "a\n\"\\"; print true; print false; print null; print []; print [0, "", "a,b", [], [null, true], -5];`,
		"0", "-1", "x y", "", "a\n\"\\", "true", "false", "null", "[]", "[0,,a,b,[],[null,true],-5]")
	answers(t, "[[[[]]]]", "[[[[]]]]", "[[[[1]]]]", "[[[[1]]]]", "[[[[[]]]]]", "[[[[[..]]]]]", "[[[[[1, 2]]]]]", "[[[[[..]]]]]", "[[[[[[1]]]]]]", "[[[[[..]]]]]", "[1, [2, [3, [4, [5]]]]]", "[1,[2,[3,[4,[..]]]]]", `[[[[[], 1, [[]], "x"]]]]`, "[[[[[..],1,[..],x]]]]")
	prints(t, "let a = [1, [2]]; push(a, a); print a;", "[1,[2],[1,[2],[1,[2],[1,[..],[..]]]]]")
	prints(t, "let a = []; push(a, a); print a; print [a]; print [[[[a]]]]; let b = [a]; print b[0];", "[[[[[..]]]]]", "[[[[[..]]]]]", "[[[[[..]]]]]", "[[[[[..]]]]]")
	prints(t, "let a = [1]; let b = [a]; push(a, b); print a; print b;", "[1,[[1,[[..]]]]]", "[[1,[[1,[..]]]]]")
}

// P4: statements.
func TestStatements(t *testing.T) {
	prints(t, "let x = 1; x = 2; print x; x = x + 1; print x; let y = x; x = 0; print y;", "2", "3", "3")
	prints(t, "if true { print 1; } if false { print 2; } if 1 < 2 { print 3; } else { print 4; } if 2 < 1 { print 5; } else { print 6; } if true { } else { print 7; } print 8;", "1", "3", "6", "8")
	prints(t, "let i = 0; while i < 3 { print i; i = i + 1; } print i; while false { print 9; }", "0", "1", "2", "3")
	prints(t, "let i = 0; while true { i = i + 1; if i == 2 { continue; } if i == 4 { break; } print i; } print i;", "1", "3", "4")
	prints(t, "let i = 0; while i < 3 { i = i + 1; let j = 0; while true { j = j + 1; if j == i { continue; } if j > 3 { break; } print i * 10 + j; } if i == 2 { break; } }", "12", "13", "21", "23")
	prints(t, "let i = 0; while i < 2 { i = i + 1; while true { break; } while false { continue; } print i; if i == 1 { continue; } break; }", "1", "2")
	prints(t, "1; null; [1]; \"a\"; -1; 1 + 1; true && false; len([]); push([], 1); [1][0];")
	prints(t, "fn f() { print 1; } print 2; f(); f();", "2", "1", "1")
}

// P4: variables and where they are seen.
func TestVariables(t *testing.T) {
	prints(t, "let x = 1; if true { print x; let x = x + 1; print x; if true { let x = x * 10; print x; x = 0; } print x; x = 5; print x; } print x;", "1", "2", "20", "2", "5", "1")
	prints(t, "let x = 1; let i = 0; while i < 2 { print x; let x = i + 5; print x; x = 9; i = i + 1; }", "1", "5", "1", "6")
	prints(t, "if true { let a = 1; let b = 2; if true { let c = 3; print [a, b, c]; } let d = 4; print [a, b, d]; } if true { let e = 5; let f = 6; print [e, f]; }", "[1,2,3]", "[1,2,4]", "[5,6]")
	prints(t, "fn f(x) { print x; x = x + 1; if true { let x = 7; x = x + 1; print x; } return x; } let x = 3; print f(x); print x;", "3", "8", "4", "3")
	prints(t, "let x = 1; fn f() { x = x + 1; let x = 50; x = x + 1; return x; } print f(); print x; if true { let x = 9; f(); print x; } print x;", "51", "2", "9", "3")
	prints(t, "let f = 1; fn f(f) { return f + 1; } print f(f); print f;", "2", "1")
	prints(t, "fn f(n) { let k = n; if n > 0 { f(n - 1); } let m = k * 10; print [n, k, m]; } f(2);", "[0,0,0]", "[1,1,10]", "[2,2,20]")
	prints(t, "fn f(a, b) { let c = a + b; return g(c, a) + c; } fn g(a, b) { let c = a * b; return c; } print f(2, 3) + f(f(1, 1), g(2, 2));", "55")
}

// P4: a global variable is null until its let is done.
func TestGlobals(t *testing.T) {
	prints(t, "print f(); let x = 3; fn f() { return x; } print f(); x = 4; print f();", "null", "3", "4")
	prints(t, "print f(); let x = f(); fn f() { return x; } print x; print f(); let y = [x, f()]; print y;", "null", "null", "null", "[null,null]")
	prints(t, "fn g() { return f(); } print g(); let x = 1; let y = 2; fn f() { return [x, y]; } print g(); y = x; print g();", "[null,null]", "[1,2]", "[1,1]")
	prints(t, "f(); let x = 3; fn f() { print x; x = 5; print x; } print x; f();", "null", "5", "3", "3", "5")
	prints(t, "let i = 0; while i < 2 { i = i + 1; print f(); } let x = 8; fn f() { return x; } print f();", "null", "null", "8")
	ends(t, api.ErrType, 1, "print f() + 1; let x = 3; fn f() { return x; }")
}

// P4: functions.
func TestCalls(t *testing.T) {
	prints(t, "fn f(x) { return x + x; } print f(2); print f(\"a\"); print f(3);", "4", "aa", "6")
	prints(t, "fn a() { } fn b() { return; } fn c() { return null; } fn d() { if true { return 1; } } fn e() { if false { return 1; } } fn f() { return 1; return 2; } print [a(), b(), c(), d(), e(), f()];", "[null,null,null,1,null,1]")
	prints(t, "fn f(n) { while true { while true { if n { return 1; } return 2; } } } print f(true); print f(false); fn g() { let i = 0; while i < 9 { i = i + 1; if i == 4 { return i; } } } print g();", "1", "2", "4")
	prints(t, "fn f(n) { if n < 2 { return n; } return f(n - 1) + f(n - 2); } print f(12);", "144")
	prints(t, "fn even(n) { if n == 0 { return true; } return odd(n - 1); } fn odd(n) { if n == 0 { return false; } return even(n - 1); } print [even(8), odd(8), even(7), odd(7)];", "[true,false,false,true]")
	prints(t, "fn f(a, b, c, d) { return [d, c, b, a]; } print f(1, f(2, 3, 4, 5), \"x\", null); fn g() { return 1; } print 1 + g() * 2 + [g(), g()][g()];", "[null,x,[5,4,3,2],1]", "4")
	prints(t, "print f(f(f(1))); fn f(x) { return x * 2; }", "8")
	prints(t, "fn f(x) { if x > 0 { while true { f(x - 1); break; } } print x; } f(3);", "0", "1", "2", "3")
}
