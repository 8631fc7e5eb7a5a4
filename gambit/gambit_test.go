package gambit_test

import (
	"slices"
	"strings"
	"testing"
	"unsafe"

	"gambit/api"
	"gambit/gambit"
)

// taken asks for a program with these functions.
func taken(t *testing.T, text string, functions ...string) {
	t.Helper()
	p, fault := gambit.Compile(text)
	if p == nil || fault != (api.Fault{}) {
		t.Errorf("Compile(%.200q) = %v, %+v, want a program", text, p != nil, fault)
		return
	}
	if got := p.Functions(); !slices.Equal(got, functions) {
		t.Errorf("Functions of %.200q = %q, want %q", text, got, functions)
	}
}

// refused asks for a fault.
func refused(t *testing.T, code api.Errno, line int, texts ...string) {
	t.Helper()
	for _, text := range texts {
		p, fault := gambit.Compile(text)
		if p != nil || fault != (api.Fault{Code: code, Line: line}) {
			t.Errorf("Compile(%.200q) = %v, %+v, want fault %d in line %d", text, p != nil, fault, code, line)
		}
	}
}

func nested(open, inner, closing string, n int) string {
	return strings.Repeat(open, n) + inner + strings.Repeat(closing, n)
}

// P3: programs and the names of their functions.
func TestPrograms(t *testing.T) {
	taken(t, "")
	taken(t, " \t\n// nothing")
	taken(t, "//\n//")
	taken(t, `fn f(x) { return x + x; } print f(2); print f("a"); print f(3);`, "f")
	taken(t, "let a = [1, [2]]; push(a, a); print a;")
	taken(t, "fn b() { } print 1; fn a(x, y) { } let z = 2; fn c() { }", "b", "a", "c")
	taken(t, "fn abcdefghijklmnop() { } fn A() { } fn a() { } fn lets() { }", "abcdefghijklmnop", "A", "a", "lets")
	taken(t, "let i = 0; while i < 10 { i = i + 1; if i == 5 { continue; } else { break; } }")
	taken(t, "let a = [1]; a[0] = 2; (a)[0] = 2; [1][0] = 3; \"s\"[0] = 4; len(a)[0] = 5; 1[0] = 6;")
	taken(t, "fn f() { return [1]; } f()[0] = 1; f(); 1; null;", "f")
	taken(t, "print 1 < 2 < 3 == 4 != 5 && 6 || 7 - -8 * !9 % 10 / 11 >= 12 <= 13 > 14;")
	taken(t, `print "\"\\\n // ~";`)
}

// P3: what is greatest, and what is one more.
func TestLimits(t *testing.T) {
	taken(t, strings.Repeat(" ", api.MaxText))
	taken(t, "print 1;//"+strings.Repeat("x", api.MaxText-10))
	refused(t, api.ErrLimit, 0, strings.Repeat(" ", api.MaxText+1), strings.Repeat("\n", api.MaxText)+"?", strings.Repeat("(", 100000))

	long := strings.Repeat("n", api.MaxName)
	taken(t, "let "+long+" = 1; print "+long+"; fn "+long+"("+long+") { }", long)
	refused(t, api.ErrSyntax, 2, "\nlet "+long+"n = 1;", "\nfn "+long+"_() { }", "\nfn f("+long+"9) { }", "\n"+strings.Repeat("x", 1000))
	taken(t, "// "+long+long+"\nprint \""+long+long+"\";")

	taken(t, "print 9223372036854775807; print "+strings.Repeat("0", 500)+"9223372036854775807;")
	refused(t, api.ErrSyntax, 2, "print\n9223372036854775808;", "print -\n9223372036854775808;", "print\n"+strings.Repeat("9", 500)+";")
}

// P3: what lies in MaxNest others, of all sorts of signs that open.
func TestNesting(t *testing.T) {
	const most = api.MaxNest
	taken(t, "print "+nested("(", "1", ")", most)+";")
	taken(t, "print "+nested("[", "", "]", most)+";")
	taken(t, nested("if true {", "", "}", most))
	taken(t, "fn f(x) { "+nested("while true {", "", "}", most-1)+" }", "f")
	taken(t, "let a = 1; print "+nested("a[", "0", "]", most)+";")
	taken(t, "fn f(x) { } "+nested("f(", "0", ")", most)+";", "f")
	taken(t, nested("len(", "0", ")", most)+"; "+nested("push(0, ", "0", ")", most)+";")
	taken(t, "print "+strings.Repeat("(1) + [1][0] + ", 2*most)+"1;")
	taken(t, "print "+strings.Repeat("-!", 900)+"1;")

	refused(t, api.ErrLimit, 2,
		"print "+nested("(", "\n(1)", ")", most)+";",
		"print "+nested("(", "\n[]", ")", most)+";",
		"print "+nested("[", "\n[]", "]", most)+";",
		"print "+nested("[", "1\n[0]", "]", most)+";",
		nested("if true {", "\nif true {\n}", "}", most),
		nested("if true {", "print\n(1);", "}", most),
		"fn f(x) { "+nested("while true {", "f\n(1);", "}", most-1)+" }",
		nested("if true {", "print "+nested("(", "len\n(1)", ")", most-most/2)+";", "}", most/2),
		"print "+nested("(", "push\n(1, 2)", ")", most)+";",
		"print "+nested("(", "\n"+nested("(\n", "1", ")", 100), ")", most)+";",
	)
}

// P3: the grammar, and the line of the first token that cannot stand.
func TestSyntax(t *testing.T) {
	refused(t, api.ErrSyntax, 1, "print 1", "1 = 2;", ";", "{ }", "print ?;", "\x00", "é")
	refused(t, api.ErrSyntax, 2, "//\n// \x01", "print 1; //\n//\r\n", "\n\"\t\"", "\n\"\x7f\"", "print\n\"a\n\";", "print\n\"\\q\";", "\n1 & 2;", "\n_a = 1;", "\n\x80")
	refused(t, api.ErrSyntax, 2,
		"print 1\n", "fn f() {\n", "if true { }\nelse if true { }", "if true { fn_ = 1;\nfn f() { } }",
		"fn\n(x) { }", "fn f(\n,) { }", "fn f(a,\n) { }", "fn f(a\nb) { }", "fn f()\n;", "fn f(a,\n1) { }",
		"let\n1 = 2;", "let\nprint = 2;", "let x\n;", "let x\n== 1;", "let x = 1\nlet y = 2;", "let a\n[0] = 1;",
		"if\n{ }", "if true\nprint 1;", "while true\n;", "while\n{ }", "\nelse { }",
		"return 1\n2;", "break\n1;", "continue\n}", "print\n;", "print\nprint 1;",
		"print (1\n;", "print (\n);", "print 1\n);", "print [1,\n];", "print [\n,1];", "print [1\n2];", "print a[\n];", "print a[1\n,2];",
		"print f(1,\n);", "print f(\n,);", "print f(1\n;", "print 1\n(2);", "print a[0]\n(1);", "print (f)\n();",
		"print len\n;", "print len(\n);", "print len(1\n, 2);", "print push(1\n);", "print push(1, 2\n, 3);", "print push(\n);",
		"print 1 +\n* 2;", "print 1\n! 2;", "print -\n;", "print 1 ==\n= 2;", "print true\nfalse;",
	)
}

// P3: what a `=` may stand behind.
func TestAssignments(t *testing.T) {
	for _, target := range []string{"1", "\"s\"", "true", "null", "(a)", "((a))", "(a[0])", "-a", "!a[0]", "a + a", "a[0] + a[0]", "a == a", "f()", "len(a)", "push(a, 1)", "[a]", "[]", "[a[0]]", "a = a", "a[0] = a[0]"} {
		refused(t, api.ErrSyntax, 2, "fn f() { } let a = [1]; "+target+"\n=\n1;")
	}
	for _, target := range []string{"a", "a[0]", "a[0][0]", "(a)[0]", "(-a)[0]", "(a + a)[0]", "f()[0]", "[a][0]", "\"s\"[0]", "1[0]", "null[0]", "len(a)[0]", "push(a, 1)[0]", "a[a[0] + 1]", "a[-1]"} {
		taken(t, "fn f() { } let a = [1]; "+target+"\n=\n1;", "f")
	}
}

// P3: a fault of an earlier sort is told, wherever one of a later sort stands.
func TestOrderOfFaults(t *testing.T) {
	deep := "print " + nested("(", "1", ")", api.MaxNest+1) + ";"
	refused(t, api.ErrLimit, 0, "?\n"+deep+"print none; break;"+strings.Repeat(" ", api.MaxText))
	refused(t, api.ErrSyntax, 4, "print 1 2;\n"+deep+"\nprint none; break;\n\"")
	refused(t, api.ErrSyntax, 3, deep+"\nprint none; break;\nprint 1 2;")
	refused(t, api.ErrLimit, 2, "print none; break;\n"+deep)
	refused(t, api.ErrName, 1, "print none;\nbreak;\nreturn;\nlet a = 1; let a = 2;", "fn f() { return none; }\nfn f() { }")
	refused(t, api.ErrPlace, 1, "break;\nprint none;", "continue;\nfn f() { } fn f() { }", "return\nnone;", "fn f(x) { if x { break; }\nreturn none; }")
	refused(t, api.ErrSyntax, 1, "?\n?", "print \"\n?\n\"", "abcdefghijklmnopq\n9223372036854775808")
}

// P3: names, each in the line of its token.
func TestNames(t *testing.T) {
	refused(t, api.ErrName, 2,
		"fn f() { } fn\nf(x) { }", "fn f() { } print 1; if true { } fn\nf() { }", "print f(1); fn f(x) { } fn\nf() { }",
		"fn f(x, y,\nx) { }", "fn f(x,\nx,\nx) { }",
		"let x = 1; let\nx =\nnone;", "let x = 1; if true { } let\nx = 1;", "let x = 1; fn f() { let x = 1; } let\nx = 1;",
		"if true { let x = 1; let\nx = 1; }", "if true { let x = 1; if true { let x = 1; } let\nx = 1; }",
		"fn f(x) { let\nx = 1; }", "fn f(x) { if true { let x = 1; let\nx = 1; } }", "fn f(x, y) { while true { } let\ny = x; }",
		"let x =\nx;", "let x = [1,\nx];", "if true { let x = 1; } print\nx;", "print\nx; let x = 1;",
		"fn f() { }\nf(1);", "fn f(x) { }\nf(\n);", "fn f(x) { }\nf(1,\n2);", "\nf();", "let f = 1;\nf(\n);", "\nf(\nnone);", "fn f(x) { } f(\nnone);",
		"fn f() { } print\nf;", "fn f() { }\nf = 1;", "\nx = none;", "\nx[none] = none;", "let x = 1; x[\nnone] =\nnone;", "let x = 1; x[0] =\nnone;",
		"print 1 +\nnone * none;", "print -\nnone;", "print (\nnone);", "print len(\nnone);", "print push(\nnone, none);", "print push(1,\nnone);", "print true ||\nnone;",
		"if\nnone { none; }", "while\nnone { none; }", "if true { } else {\nnone; }", "while true {\nnone; }", "fn f() { return\nnone; }",
	)
}

// P3: what can be seen, and from where.
func TestWhatCanBeSeen(t *testing.T) {
	taken(t, "let x = 1; let y = x;")
	taken(t, "let x = 1; if x { x = 2; while x { print x; } } else { print x; }")
	taken(t, "let x = 1; if x { let x = x; print x; let y = x; } print x; let y = 1;")
	taken(t, "if true { let x = 1; } else { let x = 2; } while true { let x = 3; } let x = 4;")
	taken(t, "let x = 1; fn f() { let x = x; return x; } fn g(x) { return x; } print x;", "f", "g")
	taken(t, "fn f(x) { if true { let x = x; print x; } return x; } let x = 1;", "f")
	taken(t, "fn f(f) { return f(f); } let f = f(1); print f(f);", "f")
	taken(t, "print g(); fn h() { return g() + h(); } fn g() { return 1; }", "h", "g")
	taken(t, "let y = 1; fn f() { y = 2; return y; } fn g() { return y; }", "f", "g")

	refused(t, api.ErrName, 2,
		"fn f() { return\ny; } let y = 1;", "fn f() { if true { return\ny; } } let y = 1; fn g() { return y; }",
		"if true { let y = 1; } fn f() { return\ny; }", "while false { let y = 1; } fn f() { return\ny; }",
		"fn f(x) { } print\nx;", "fn f(x) { let y = 1; } print\ny;", "fn f(x) { } fn g() { return\nx; }", "fn f() { let y = 1; } fn g() { return\ny; }",
		"if true { let y = 1; } else {\ny = 1; }", "if true { if true { let y = 1; }\ny; }", "while true { let y = 1; } print\ny;",
		"if true {\nprint y; let y = 1; }", "if true { let y =\ny; }", "fn f() { let y =\ny; }",
	)
}

// P3: statements where they cannot stand.
func TestPlaces(t *testing.T) {
	taken(t, "while true { break; continue; if true { break; } else { continue; } while true { break; } continue; }")
	taken(t, "fn f() { return; if true { return 1; } while true { return 2; break; } return; }", "f")
	refused(t, api.ErrPlace, 2,
		"\nbreak;", "\ncontinue;", "\nreturn;", "\nreturn 1;", "\nreturn none;",
		"if true {\nbreak; }", "if true { } else {\ncontinue; }", "while true { }\nbreak;", "while true { while true { } break; }\ncontinue;",
		"fn f() {\nbreak; }", "fn f() { if true {\ncontinue; } }", "fn f() { while true { } }\nbreak;", "while true { } fn f() {\nbreak; }",
		"while true {\nreturn; }", "fn f() { return; }\nreturn;", "fn f() { } if true { } else {\nreturn; }",
	)
}

// P1: every call ends and none panics; a program is there just if no fault is.
func TestAllTexts(t *testing.T) {
	samples := []string{
		"fn f(x, y) { let z = [x, \"a\\n\\\"\"]; if x < 1 && !y { return -z[0]; } else { push(z, y); } }\nlet a = f(1, 2);\na[0] = len(\"b\") % 3; // end\nwhile true { break; continue; }",
		nested("(", "", ")", 900), nested("[", "", "]", 900) + ";", nested("if true {", "", "}", 150), nested("print f(", "", "", 200),
		strings.Repeat("!", api.MaxText), strings.Repeat("1+", 900) + "1;", strings.Repeat("a[", 999), strings.Repeat("{", api.MaxText), strings.Repeat("\"", api.MaxText),
	}
	for _, sample := range samples {
		for i := 0; i <= len(sample); i += 1 + len(sample)/300 {
			orderly(t, sample[:i])
			orderly(t, sample[i:])
		}
	}
	for i := range len(samples[0]) {
		for b := range 256 {
			orderly(t, samples[0][:i]+string([]byte{byte(b)})+samples[0][i+1:])
		}
	}
}

func orderly(t *testing.T, text string) {
	t.Helper()
	p, fault := gambit.Compile(text)
	if (p == nil) != (fault.Code != api.OK) {
		t.Fatalf("Compile(%q) = %v, %+v", text, p != nil, fault)
	}
	if p != nil {
		if fault != (api.Fault{}) {
			t.Fatalf("Compile(%q): fault %+v beside a program", text, fault)
		}
		p.Functions()
		return
	}
	last := strings.Count(text, "\n") + 1
	if fault.Code > api.ErrPlace || fault.Line < 1 || fault.Line > last {
		t.Fatalf("Compile(%q): fault %+v", text, fault)
	}
}

// P2: an answer hangs on the text alone, and no call leaves anything behind.
func TestSameAgain(t *testing.T) {
	texts := []string{"fn f() { } fn g() { }", "fn f(x) { }", "print none;", "fn f() { } fn f() { }", "let x = 1;", "break;", "?", "while true { fn"}
	type answer struct {
		functions []string
		fault     api.Fault
	}
	ask := func(text string) answer {
		p, fault := gambit.Compile(text)
		if p == nil {
			return answer{nil, fault}
		}
		return answer{p.Functions(), fault}
	}
	var first []answer
	for _, text := range texts {
		first = append(first, ask(text))
	}
	for range 3 {
		for i := len(texts) - 1; i >= 0; i-- {
			if again := ask(texts[i]); !slices.Equal(again.functions, first[i].functions) || again.fault != first[i].fault {
				t.Errorf("Compile(%q): first %v, then %v", texts[i], first[i], again)
			}
		}
	}
}

// P2: lists that come out are new memory, spare room too.
func TestListsAreNew(t *testing.T) {
	for _, text := range []string{"", "fn a() { }", "fn a() { } fn b() { } fn c() { }", "fn a() { } fn b() { } fn c() { } fn d() { } fn e() { }"} {
		p, _ := gambit.Compile(text)
		want := slices.Clone(p.Functions())
		one, two := p.Functions(), p.Functions()
		for i := range one[:cap(one)] {
			one[:cap(one)][i] = "spoilt"
		}
		if slices.Contains(two[:cap(two)], "spoilt") {
			t.Errorf("%q: two lists share memory", text)
		}
		if got := p.Functions(); !slices.Equal(got, want) {
			t.Errorf("%q: Functions = %q behind a change of an older list, want %q", text, got, want)
		}
	}
}

// P2: the text is not kept: its memory may be used for something else.
func TestTextIsNotKept(t *testing.T) {
	memory := []byte("fn first(x) { return x; } fn second() { }")
	before := string(memory)
	p, _ := gambit.Compile(unsafe.String(&memory[0], len(memory)))
	if string(memory) != before {
		t.Errorf("the text was changed: %q", memory)
	}
	names := p.Functions()
	for i := range memory {
		memory[i] = '?'
	}
	for _, got := range [][]string{names, p.Functions()} {
		if !slices.Equal(got, []string{"first", "second"}) {
			t.Errorf("Functions = %q, want first, second", got)
		}
	}
}
