package emit

import (
	"gambit/code"
	"gambit/scan"
	"gambit/tree"
	"gambit/value"
)

func (w *writer) expr(e tree.Expr) {
	switch e := e.(type) {
	case *tree.Int:
		w.constant(value.OfInt(e.Value))
	case *tree.String:
		w.constant(value.OfString(e.Value))
	case *tree.Bool:
		w.constant(value.OfBool(e.Value))
	case *tree.Null:
		w.constant(value.Value{})
	case *tree.Var:
		w.variable(e.Name, code.Load, code.LoadGlobal)
	case *tree.Group:
		w.expr(e.Inner)
	case *tree.Unary:
		w.expr(e.Of)
		w.step(unary(e.Sign), 0, e.Line)
	case *tree.Binary:
		w.binary(e)
	default:
		w.made(e)
	}
}

// made writes the expressions that make arrays, look into them, or call.
func (w *writer) made(e tree.Expr) {
	switch e := e.(type) {
	case *tree.List:
		w.exprs(e.Items)
		w.step(code.List, len(e.Items), e.Line)
	case *tree.Call:
		w.exprs(e.Args)
		w.step(code.Call, w.number(e.Name), e.Line)
	case *tree.Len:
		w.expr(e.Of)
		w.step(code.Length, 0, e.Line)
	case *tree.Push:
		w.expr(e.Onto)
		w.expr(e.Value)
		w.step(code.Push, 0, e.Line)
	case *tree.Index:
		w.expr(e.Of)
		w.expr(e.Place)
		w.step(code.Index, 0, e.Line)
	}
}

func (w *writer) exprs(list []tree.Expr) {
	for _, e := range list {
		w.expr(e)
	}
}

func (w *writer) number(name string) int {
	for i, f := range w.functions {
		if f.Ident.Name == name {
			return i
		}
	}
	return -1
}

func (w *writer) binary(e *tree.Binary) {
	w.expr(e.Left)
	if e.Sign == scan.And || e.Sign == scan.Or {
		decided := w.step(binary(e.Sign), 0, e.Line)
		w.expr(e.Right)
		w.step(code.AskBool, 0, e.Line)
		w.land(decided)
		return
	}
	w.expr(e.Right)
	w.step(binary(e.Sign), 0, e.Line)
}

func unary(sign scan.Kind) code.Op {
	if sign == scan.Not {
		return code.Not
	}
	return code.Negate
}

func binary(sign scan.Kind) code.Op {
	switch sign {
	case scan.Or:
		return code.Or
	case scan.And:
		return code.And
	case scan.Equal:
		return code.Equal
	case scan.NotEqual:
		return code.NotEqual
	case scan.Less:
		return code.Less
	case scan.LessEqual:
		return code.LessEqual
	case scan.Greater:
		return code.Greater
	case scan.GreaterEqual:
		return code.GreaterEqual
	case scan.Plus:
		return code.Add
	case scan.Minus:
		return code.Subtract
	case scan.Times:
		return code.Multiply
	case scan.Divide:
		return code.Divide
	}
	return code.Rest
}
