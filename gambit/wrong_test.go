package gambit_test

import (
	"strings"
	"testing"

	"gambit/api"
)

// P4: ErrType, in the line of the sign.
func TestWrongSorts(t *testing.T) {
	ints, texts := []string{"1"}, []string{`"a"`}
	others := []string{"true", "null", "[]"}
	for _, sign := range []string{"+", "<", "<=", ">", ">="} {
		for _, left := range append(append(others, ints...), texts...) {
			for _, right := range others {
				goesWrong(t, api.ErrType, left+"\n"+sign+"\n"+right, right+"\n"+sign+"\n"+left)
			}
		}
		goesWrong(t, api.ErrType, "1\n"+sign+"\n\"a\"", "\"1\"\n"+sign+"\n1", "f()\n"+sign+"\n1")
	}
	for _, sign := range []string{"-", "*", "/", "%"} {
		for _, other := range append(others, texts...) {
			goesWrong(t, api.ErrType, "1\n"+sign+"\n"+other, other+"\n"+sign+"\n1", other+"\n"+sign+"\n"+other, other+"\n"+sign+"\n0")
		}
	}
	goesWrong(t, api.ErrType, "\n- \"a\"", "\n-\ntrue", "\n-\nnull", "\n-\n[1]", "\n-\nf()", "-\n-\nnull")
	goesWrong(t, api.ErrType, "\n!\n0", "\n!\n1", "\n!\n\"\"", "\n!\nnull", "\n!\n[]", "!\n!\n1", "\n!\nf()")
}

// P4: ErrType of what asks for true or false.
func TestNeitherTrueNorFalse(t *testing.T) {
	for _, other := range []string{"0", "1", `""`, `"true"`, "null", "[]", "[true]", "f()"} {
		goesWrong(t, api.ErrType, other+"\n&&\ntrue", other+"\n||\ntrue", other+"\n&&\nfalse", other+"\n||\nfalse", "true\n&&\n"+other, "false\n||\n"+other, other+"\n&&\n"+other, other+"\n||\n"+other)
		goesWrong(t, api.ErrType, "(true && true\n&&\n"+other+")", "(\n"+other+" && true\n&& true)", "(false || false\n||\n"+other+")", "true || 1; true\n&&\n(\n"+other+")")
		ends(t, api.ErrType, 2, "fn f() { }\nif\n"+other+"\n{ print 1; } else { print 2; }")
		ends(t, api.ErrType, 2, "fn f() { }\nwhile\n"+other+"\n{ print 1; }")
	}
	// The left side is asked ahead of the right one.
	ends(t, api.ErrType, 1, "fn p(x) { print x; return x; } p(1) && p(true);", "1")
	ends(t, api.ErrType, 1, "fn p(x) { print x; return x; } p(null) || p(true);", "null")
	ends(t, api.ErrType, 3, "let i = 0;\n\nwhile [true, true, 0][i] { print i; i = i + 1; }", "0", "1")
	ends(t, api.ErrType, 3, "if true { if true {\n\nif\n0 { } } }")
}

// P4: ErrType and ErrIndex of places, in the line of the `[`.
func TestWrongPlaces(t *testing.T) {
	for _, of := range []string{"1", "true", "null", "f()"} {
		goesWrong(t, api.ErrType, of+"\n[\n0\n]", of+"\n[\nnull\n]", of+"\n[\n0\n] = 1", of+"\n[\n-1] = 1")
	}
	for _, place := range []string{"true", "null", `"0"`, "[0]", "[]"} {
		goesWrong(t, api.ErrType, "[1]\n[\n"+place+"]", "\"a\"\n[\n"+place+"]", "[1]\n[\n"+place+"] = 1", "[]\n["+place+"]")
	}
	goesWrong(t, api.ErrType, "\"a\"\n[\n0] = \"b\"", "\"a\"\n[\n5] = \"b\"", "\"\"\n[null] = 1", "[[1], 2][1]\n[\n0]", "[\"a\"][0]\n[0] = 1", "[[1], 2][1]\n[0] = 3")
	for _, of := range []string{"[]", "[1]", "[1, 2]", `""`, `"a"`, `"ab"`} {
		goesWrong(t, api.ErrIndex, of+"\n[\n2\n]", of+"\n[\n-1]", of+"\n["+greatest+"]", of+"\n["+least+"]", of+"\n[4294967296]")
	}
	for _, of := range []string{"[]", "[1]", "[1, 2]"} {
		goesWrong(t, api.ErrIndex, of+"\n[\n2\n] = 1", of+"\n[\n-1] = 1", of+"\n["+greatest+"] = 1", of+"\n["+least+"] = 1", of+"\n[4294967296] = 1")
	}
	goesWrong(t, api.ErrIndex, "[[1]][0]\n[\n1]", "[[1]]\n[1]\n[0]", "[[1]]\n[1]\n[0] = 1", "[[1]][0]\n[1] = 1", "[0]\n[len([1])] = 1")
}

// P4: ErrType of len and push, in their lines.
func TestWrongLenAndPush(t *testing.T) {
	for _, of := range []string{"1", "true", "null", "f()"} {
		goesWrong(t, api.ErrType, "\nlen\n(\n"+of+")", "\npush\n(\n"+of+", 1)", "[\nlen(\n"+of+")]")
	}
	goesWrong(t, api.ErrType, "\npush\n(\"a\", \"b\")", "1 + len([]) + push([],\nlen(1))")
}

// P4: ErrDivide.
func TestDivideByNothing(t *testing.T) {
	goesWrong(t, api.ErrDivide, "1\n/\n0", "1\n%\n0", "0\n/ 0", "0\n% 0", least+"\n/ 0", greatest+"\n%\n-0", "1 / 1\n/\n(1 - 1)", "1 % 2\n% (2 - 2)", "\n1 / 0 + null")
	ends(t, api.ErrDivide, 3, "print 5;\nprint 1\n% 0;", "5")
}

// P4: of two things that are wrong the first one that is come to is told.
func TestWhichIsFirst(t *testing.T) {
	p := "fn p(x) { print x; return x; } fn wrong() { return 1 / 0; }\n"
	for _, e := range []string{"1 / 0 + null", "(1 / 0) - (1 + null)", "[1 / 0, -null]", "p(1 / 0)", "wrong()[-null]", "len(1 / 0)", "push(1 / 0, -null)", "1 / 0 && 1", "1 + (1 / 0)", "null + wrong()", "null[1 / 0]", "push(null, 1 / 0)", "true && 1 / 0", "!(1 / 0)"} {
		if strings.Contains(e, "wrong") {
			ends(t, api.ErrDivide, 1, p+"print "+e+";")
		} else {
			ends(t, api.ErrDivide, 2, p+"print "+e+";")
		}
	}
	// In an assignment what is set is asked last.
	ends(t, api.ErrDivide, 2, p+"let a = 1; a[0] = 1 / 0;")
	ends(t, api.ErrDivide, 2, p+"let a = []; a[5] = 1 / 0;")
	ends(t, api.ErrDivide, 2, p+"let a = []; a[null] = 1 / 0;")
	ends(t, api.ErrDivide, 2, p+"let a = []; a[1 / 0] = -null;")
	ends(t, api.ErrIndex, 4, p+"let a = [0];\na\n[p(3)] = p(4);", "3", "4")
	ends(t, api.ErrType, 4, p+"let a = \"x\";\na\n[p(3)] = p(4);", "3", "4")
	ends(t, api.ErrIndex, 3, p+"let a = [0]; a\n[p(3)]\n[p(4)] = p(5);", "3")
	// What was done ahead stays done.
	ends(t, api.ErrIndex, 2, p+"let a = [0]; a[0] = p(1); print a; a[1] = p(2); print a;", "1", "[1]", "2")
	ends(t, api.ErrType, 2, p+"print p(1) + p(\"a\"); print 2;", "1", "a")
	ends(t, api.ErrType, 2, p+"print [p(1), p(2) - p(null), p(3)];", "1", "2", "null")
}

// P4: what goes wrong in a call is told in the line where it went wrong, and ends the whole program.
func TestWrongInCalls(t *testing.T) {
	ends(t, api.ErrType, 2, "fn f(x) { return\n-x; }\nprint f(1);\nprint f(null);\nprint 2;", "-1")
	ends(t, api.ErrIndex, 3, "fn f(x) { print 1; g(x); print 2; }\nfn g(x) { while true {\nx[0]; } }\nf([]);", "1")
	ends(t, api.ErrDivide, 1, "fn f(x) { if x == 0 { return 1 / x; } return f(x - 1); }\nprint 1;\nprint\nf(9);", "1")
}
