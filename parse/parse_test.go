package parse

import (
	"strconv"
	"strings"
	"testing"

	"gambit/api"
	"gambit/scan"
	"gambit/tree"
)

func read(text string) (*tree.Program, api.Fault) {
	tokens, fault := scan.Scan(text)
	if fault.Code != api.OK {
		return nil, fault
	}
	return Program(tokens)
}

// show writes an expression with all its parentheses, and with the line of each sign.
func show(e tree.Expr) string {
	switch e := e.(type) {
	case *tree.Int:
		return strconv.FormatInt(e.Value, 10)
	case *tree.String:
		return strconv.Quote(e.Value)
	case *tree.Bool:
		return strconv.FormatBool(e.Value)
	case *tree.Null:
		return "null"
	case *tree.Group:
		return "group" + showAll(0, e.Inner)
	case *tree.List:
		return "list" + showAll(e.Line, e.Items...)
	case *tree.Var:
		return e.Name + "@" + strconv.Itoa(e.Line)
	case *tree.Call:
		return e.Name + showAll(e.Line, e.Args...)
	case *tree.Len:
		return "len" + showAll(e.Line, e.Of)
	case *tree.Push:
		return "push" + showAll(e.Line, e.Onto, e.Value)
	case *tree.Index:
		return "index" + showAll(e.Line, e.Of, e.Place)
	case *tree.Unary:
		return "sign" + strconv.Itoa(int(e.Sign-scan.Assign)) + showAll(e.Line, e.Of)
	case *tree.Binary:
		return "sign" + strconv.Itoa(int(e.Sign-scan.Assign)) + showAll(e.Line, e.Left, e.Right)
	}
	return "?"
}

func showAll(line int, list ...tree.Expr) string {
	var parts []string
	for _, e := range list {
		parts = append(parts, show(e))
	}
	return "@" + strconv.Itoa(line) + "(" + strings.Join(parts, " ") + ")"
}

// Signs by number: = 0, == 1, ! 2, != 3, < 4, <= 5, > 6, >= 7, + 8, - 9, * 10, / 11, % 12, && 13, || 14.
func TestExpressions(t *testing.T) {
	for _, c := range []struct{ text, want string }{
		{"1 - 2 - 3", "sign9@1(sign9@1(1 2) 3)"},
		{"1 / 2 * 3 % 4", "sign12@1(sign10@1(sign11@1(1 2) 3) 4)"},
		{"1 + 2 * 3", "sign8@1(1 sign10@1(2 3))"},
		{"1 < 2 + 3 == true", "sign1@1(sign4@1(1 sign8@1(2 3)) true)"},
		{"1 <= 2 >= 3 > 4", "sign6@1(sign7@1(sign5@1(1 2) 3) 4)"},
		{"1 != 2 && 3 == 4 || false", "sign14@1(sign13@1(sign3@1(1 2) sign1@1(3 4)) false)"},
		{"true || false && null", "sign14@1(true sign13@1(false null))"},
		{"- !1[0]", "sign9@1(sign2@1(index@1(1 0)))"},
		{"-1 * 2", "sign10@1(sign9@1(1) 2)"},
		{"(1 + 2) * 3", "sign10@1(group@0(sign8@1(1 2)) 3)"},
		{"1\n+\n2", "sign8@2(1 2)"},
		{"a\n[\n0\n]\n[1]", "index@5(index@2(a@1 0) 1)"},
		{"f\n(\na,\n[\n])", "f@1(a@3 list@4())"},
		{"\nlen\n(\"a\\n\")", "len@2(\"a\\n\")"},
		{"\npush(\n[1, 2], 3)", "push@2(list@3(1 2) 3)"},
	} {
		program, fault := read(c.text + ";")
		if fault.Code != api.OK || len(program.Body) != 1 {
			t.Errorf("%q: %v", c.text, fault)
			continue
		}
		if got := show(program.Body[0].(*tree.Do).Value); got != c.want {
			t.Errorf("%q is %s, want %s", c.text, got, c.want)
		}
	}
}

func TestStatements(t *testing.T) {
	program, fault := read("fn\nf(a,\nb) { return; return\na; }\nlet\nx = 1;\nif x { break; } else { continue; print 2; }\nif 1 { }\nwhile 2 { print\n3; }\nx = 4; x[5] = 6;")
	if fault.Code != api.OK || len(program.Body) != 7 {
		t.Fatalf("%v", fault)
	}
	f := program.Body[0].(*tree.Function)
	if f.Ident != (tree.Ident{Line: 2, Name: "f"}) || len(f.Params) != 2 || f.Params[1] != (tree.Ident{Line: 3, Name: "b"}) {
		t.Errorf("function: %+v", f)
	}
	if none, some := f.Body[0].(*tree.Return), f.Body[1].(*tree.Return); none.Value != nil || some.Line != 3 || show(some.Value) != "a@4" {
		t.Errorf("returns: %+v, %+v", none, some)
	}
	if let := program.Body[1].(*tree.Let); let.Ident != (tree.Ident{Line: 6, Name: "x"}) || show(let.Value) != "1" {
		t.Errorf("let: %+v", let)
	}
	branch := program.Body[2].(*tree.If)
	if branch.Line != 7 || show(branch.Cond) != "x@7" || len(branch.Then) != 1 || len(branch.Else) != 2 {
		t.Errorf("if: %+v", branch)
	}
	if _, ok := branch.Then[0].(*tree.Break); !ok {
		t.Errorf("break: %+v", branch.Then[0])
	}
	if _, ok := branch.Else[0].(*tree.Continue); !ok {
		t.Errorf("continue: %+v", branch.Else[0])
	}
	if short := program.Body[3].(*tree.If); short.Line != 8 || short.Then != nil || short.Else != nil {
		t.Errorf("if without else: %+v", short)
	}
	if loop := program.Body[4].(*tree.While); loop.Line != 9 || show(loop.Cond) != "2" || loop.Body[0].(*tree.Print).Line != 9 {
		t.Errorf("while: %+v", loop)
	}
	if set := program.Body[6].(*tree.Set); show(set.Target) != "index@11(x@11 5)" || show(set.Value) != "6" {
		t.Errorf("set: %+v", set)
	}
}

func TestFaults(t *testing.T) {
	for _, c := range []struct {
		text string
		want api.Fault
	}{
		{"print\n1\n2\n;", api.Fault{Code: api.ErrSyntax, Line: 3}},
		{"1\n=\n2;", api.Fault{Code: api.ErrSyntax, Line: 2}},
		{"a\n+\nb\n=\n2;", api.Fault{Code: api.ErrSyntax, Line: 4}},
		{"a = b\n= c;", api.Fault{Code: api.ErrSyntax, Line: 2}},
		{"if a { }\n\nelse\nif b { }", api.Fault{Code: api.ErrSyntax, Line: 4}},
		{"print 1\n\n", api.Fault{Code: api.ErrSyntax, Line: 3}},
		{strings.Repeat("(", api.MaxNest+1) + "\n;", api.Fault{Code: api.ErrSyntax, Line: 2}},
		{strings.Repeat("(", api.MaxNest) + "\n(1)" + strings.Repeat(")", api.MaxNest) + ";", api.Fault{Code: api.ErrLimit, Line: 2}},
	} {
		if program, fault := read(c.text); program != nil || fault != c.want {
			t.Errorf("%q: %v, %v, want %v", c.text, program != nil, fault, c.want)
		}
	}
}
