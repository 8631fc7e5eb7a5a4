package gambit_test

import (
	"strings"
	"testing"

	"gambit/api"
)

// times writes a loop of so many rounds.
func times(rounds int, body string) string {
	return "let i = 0; while i < " + number(rounds) + " { i = i + 1; " + body + " } "
}

// P4: each round that begins uses fuel.
func TestFuelOfRounds(t *testing.T) {
	prints(t, times(api.MaxFuel, "")+"print i;", number(api.MaxFuel))
	ends(t, api.ErrFuel, 2, "print 7;\n"+times(api.MaxFuel+1, "")+"print i;", "7")
	ends(t, api.ErrFuel, 2, "\nwhile\ntrue\n{\n}")
	ends(t, api.ErrFuel, 2, "\nwhile true {\ncontinue; }")
	ends(t, api.ErrFuel, 3, "\nwhile true {\nwhile true {\n} }")

	// What is no round that begins needs none.
	prints(t, times(api.MaxFuel, "")+"while false { } while i < 0 { } if true { print 1; }", "1")
	ends(t, api.ErrType, 2, times(api.MaxFuel, "")+"\nwhile 1 { }")
	ends(t, api.ErrFuel, 2, times(api.MaxFuel, "")+"\nwhile true { break; }")
	// What a round asks is done ahead of it.
	p := "fn p(x) { print x; return true; } "
	ends(t, api.ErrFuel, 2, p+times(api.MaxFuel-1, "")+"\nwhile\np(1) { print 2; }", "1")
	ends(t, api.ErrFuel, 3, p+times(api.MaxFuel-2, "")+"\nwhile\np(1) { print 2; }", "1", "2")
}

// P4: each call uses fuel, behind its arguments.
func TestFuelOfCalls(t *testing.T) {
	half := api.MaxFuel / 2
	f := "fn f() { } " + times(half, "f();") + "print i;"
	prints(t, f, number(half))
	ends(t, api.ErrFuel, 2, f+"\nf\n(\n);", number(half))
	ends(t, api.ErrFuel, 2, f+"\nwhile true { }", number(half))

	p := "fn p(x) { print x; return x; } "
	prints(t, p+times(api.MaxFuel-3, "")+"p(p(1) + p(2));", "1", "2", "3")
	ends(t, api.ErrFuel, 2, p+times(api.MaxFuel-2, "")+"\np\n(p(1) + p(2));", "1", "2")
	ends(t, api.ErrFuel, 4, p+times(api.MaxFuel-1, "")+"\np(\np(1) +\np(2));", "1")
	ends(t, api.ErrDivide, 2, p+times(api.MaxFuel, "")+"\np(1 / 0);")
	ends(t, api.ErrFuel, 1, "fn f(n) { if n == 0 { return 0; } return f(n - 1) + f(n - 1); } f(11);")
}

// P4: calls in one another.
func TestDepth(t *testing.T) {
	f := "fn f(n) { if n == 0 { return 0; } return 1 +\nf(n - 1); } print\n\n"
	prints(t, f+"f("+number(api.MaxDepth-1)+");", number(api.MaxDepth-1))
	ends(t, api.ErrDepth, 2, f+"f("+number(api.MaxDepth)+");")
	ends(t, api.ErrDepth, 2, f+"f(-1);")
	ends(t, api.ErrDepth, 2, "fn f(n) { return\nf\n(\nn); } f(1);")

	both := "fn f(n) { if n == 0 { return 0; } return\ng(n - 1); } fn g(n) { if n == 0 { return 0; } return\n\nf(n - 1); } print "
	prints(t, both+"f("+number(api.MaxDepth-1)+");", "0")
	prints(t, both+"g("+number(api.MaxDepth-1)+");", "0")
	ends(t, api.ErrDepth, 4, both+"f("+number(api.MaxDepth)+");")
	ends(t, api.ErrDepth, 2, both+"g("+number(api.MaxDepth)+");")

	// Calls that came to their end, and arguments, lie in no call.
	deep := "f(" + number(api.MaxDepth-1) + ")"
	prints(t, f+deep+" + "+deep+"; print "+deep+";", number(2*api.MaxDepth-2), number(api.MaxDepth-1))
	prints(t, f+deep+" - "+number(api.MaxDepth-1)+" + f("+deep+");", number(api.MaxDepth-1))
	// A call in a loop of a call.
	prints(t, "fn f(n) { while n > 0 { return f(n - 1) + 1; } return 0; } print "+deep+";", number(api.MaxDepth-1))
}

// P4: ErrFuel is told ahead of ErrDepth.
func TestFuelAheadOfDepth(t *testing.T) {
	f := "fn f() { return f(); } "
	ends(t, api.ErrFuel, 1, f+times(api.MaxFuel-api.MaxDepth, "")+"\nf();")
	ends(t, api.ErrDepth, 1, f+times(api.MaxFuel-api.MaxDepth-1, "")+"\nf();")
	ends(t, api.ErrFuel, 2, f+times(api.MaxFuel, "")+"\nf();")
}

func items(n int) string {
	return strings.TrimSuffix(strings.Repeat("1,", n), ",")
}

// P4: the values of all arrays that were made.
func TestCells(t *testing.T) {
	most := api.MaxCells
	prints(t, "let a = []; "+times(most, "push(a, i);")+"print len(a); print a["+number(most-1)+"];", number(most), number(most))
	ends(t, api.ErrMemory, 3, "let a = []; let i = 0; while true { if i == 498 { print len(a); } i = i + 1;\n\npush\n(a, i); }", "498")
	prints(t, "print len(["+items(most)+"]);", number(most))
	ends(t, api.ErrMemory, 2, "print len(\n[\n"+items(most+1)+"]);")
	prints(t, "let a = ["+items(most-1)+"]; push(a, 2); print len(a);", number(most))
	ends(t, api.ErrMemory, 2, "let a = ["+items(most)+"];\npush\n(a, 2); print len(a);")
	ends(t, api.ErrMemory, 2, "let a = ["+items(most)+"];\npush([], 2); print len(a);")
	ends(t, api.ErrMemory, 2, "let a = ["+items(most-1)+"]; print\n[1, 2];")
	ends(t, api.ErrMemory, 2, "let a = ["+items(most-2)+"]; print\n[[1], 2];")
	ends(t, api.ErrMemory, 3, "let a = ["+items(most)+"]; print\n[\n[1], 2];")

	// Those that nobody has any more count too; a place that is set anew does not, nor an array of nothing.
	ends(t, api.ErrMemory, 1, times(most, "[i];")+"print i; [i];", number(most))
	ends(t, api.ErrMemory, 1, "fn f() { return [1, 2]; } "+times(most/2, "f();")+"print i; f();", number(most/2))
	prints(t, "let a = ["+items(most)+"]; "+times(most, "a[i - 1] = i; a = a; [];")+"print len(a); print a[0] == [];", number(most), "false")
	// What is laid into an array is done ahead.
	ends(t, api.ErrMemory, 2, "fn p(x) { print x; return x; } let a = ["+items(most)+"];\n[p(1), p(2)];", "1", "2")
	ends(t, api.ErrMemory, 2, "fn p(x) { print x; return x; } let a = ["+items(most)+"];\npush(p([]), p(2));", "[]", "2")
	ends(t, api.ErrDivide, 3, "let a = ["+items(most)+"];\n[\n1 / 0];")
	ends(t, api.ErrType, 2, "let a = ["+items(most)+"];\npush(1, 2);")
}

// P4: the bytes of a string that is joined.
func TestStringBytes(t *testing.T) {
	most := strings.Repeat("x", api.MaxString)
	prints(t, "let s = \"\"; "+times(api.MaxString, "s = s + \"x\";")+"print s;", most)
	ends(t, api.ErrMemory, 2, "let s = \"\"; "+times(api.MaxString, "s = s + \"x\";")+"print len(s); s = s\n+\n\"x\";", number(api.MaxString))
	prints(t, "print \""+most+"\" + \"\"; print \"\" + \""+most+"\";", most, most)
	ends(t, api.ErrMemory, 2, "print \""+most+"\"\n+\n\"y\";")
	ends(t, api.ErrMemory, 2, "print \"y\"\n+\n\""+most+"\";")
	ends(t, api.ErrMemory, 1, "print \""+most+"\" + \""+most+"\";")
	ends(t, api.ErrType, 1, "print \""+most+"\" + 1;")
	// One that is written out may be longer, as long as none is joined to it.
	prints(t, "let s = \""+most+"yz\"; print s; print len(s); print s["+number(api.MaxString)+"]; print s == \""+most+"yz\";", most+"yz", number(api.MaxString+2), "y", "true")
	ends(t, api.ErrMemory, 1, "print \""+most+"y\" + \"\";")
	// Bytes are meant, not what is written.
	prints(t, "print len(\""+strings.Repeat(`\"`, api.MaxString)+"\" + \"\");", number(api.MaxString))
}

// P4: how many lines are printed.
func TestHowManyLines(t *testing.T) {
	var lines []string
	for i := range api.MaxLines {
		lines = append(lines, number(i+1))
	}
	prints(t, times(api.MaxLines, "print i;"), lines...)
	ends(t, api.ErrMemory, 2, times(api.MaxLines, "print i;")+"\nprint\n1;", lines...)
	ends(t, api.ErrMemory, 2, times(api.MaxLines, "print i;")+"\nprint \"\";", lines...)
	ends(t, api.ErrDivide, 3, times(api.MaxLines, "print i;")+"\nprint\n1 / 0;", lines...)
	// One with a LF in it is one.
	for i := range lines {
		lines[i] = "a\nb"
	}
	prints(t, times(api.MaxLines, `print "a\nb";`), lines...)
}

// P4: the bytes of a line.
func TestLineBytes(t *testing.T) {
	long := strings.Repeat("x", api.MaxLine)
	prints(t, "print \""+long+"\";", long)
	ends(t, api.ErrMemory, 2, "print 1;\nprint\n\""+long+"y\";", "1")
	prints(t, "print [\""+long[2:]+"\"];", "["+long[2:]+"]")
	ends(t, api.ErrMemory, 1, "print [\""+long[1:]+"\"];")
	prints(t, "print [\""+long[4:]+"\", 1];", "["+long[4:]+",1]")
	ends(t, api.ErrMemory, 1, "print [\""+long[4:]+"\", 12];")
	ends(t, api.ErrMemory, 1, "print [\""+long[4:]+"\", -1];")
	prints(t, "print [[[[\""+long[13:]+"\", []]]]];", "[[[["+long[13:]+",[..]]]]]")
	ends(t, api.ErrMemory, 1, "print [[[[\""+long[12:]+"\", []]]]];")
	prints(t, "let a = []; "+times(api.MaxLine-1, "push(a, \"\");")+"print a;", "["+strings.Repeat(",", api.MaxLine-2)+"]")
	ends(t, api.ErrMemory, 1, "let a = []; "+times(api.MaxLine, "push(a, \"\");")+"print a;")
}

// P1, P4: arrays that would be told in more bytes than there are atoms.
func TestLinesWithoutEnd(t *testing.T) {
	ends(t, api.ErrMemory, 1, "let a = []; "+times(400, "push(a, a);")+"print len(a); print a;", "400")
	ends(t, api.ErrMemory, 1, "let a = []; "+times(120, "push(a, [a, a]);")+"print [a, a];")
	ends(t, api.ErrMemory, 1, "let a = [\"\"]; "+times(100, "push(a, a); push(a, \"\");")+"print a;")
}
