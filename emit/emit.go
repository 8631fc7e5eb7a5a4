// Package emit turns programs into instructions.
package emit

import (
	"gambit/check"
	"gambit/code"
	"gambit/stack"
	"gambit/tree"
	"gambit/value"
)

// loop is a while that is open: where it begins, and the jumps that are to lead behind it.
type loop struct {
	start  int
	breaks []int
}

// A writer writes one body after the other, in the order of the text: what was let so far is what can be seen.
type writer struct {
	functions []*tree.Function
	globals   []string
	locals    stack.Stack[string] // those that can be seen, each at the place of its slot
	loops     stack.Stack[*loop]  // those that are open
	body      code.Body
}

// Program answers the instructions of a program that has no fault.
func Program(program *tree.Program) *code.Program {
	w := &writer{functions: check.Functions(program)}
	made := &code.Program{}
	for _, s := range program.Body {
		switch s := s.(type) {
		case *tree.Function:
			made.Functions = append(made.Functions, w.function(s))
		case *tree.Let:
			w.expr(s.Value)
			w.step(code.StoreGlobal, len(w.globals), 0)
			w.globals = append(w.globals, s.Ident.Name)
		default:
			w.statement(s)
		}
	}
	made.Main = w.body
	made.Globals = len(w.globals)
	return made
}

// function stands outside of all blocks, where no locals and no loops are open.
func (w *writer) function(f *tree.Function) code.Function {
	outer := w.body
	w.body = code.Body{}
	for _, param := range f.Params {
		w.local(param.Name)
	}
	w.statements(f.Body)
	w.step(code.ReturnNull, 0, 0)
	w.locals.Cut(0)
	made := code.Function{Name: f.Ident.Name, Params: len(f.Params), Body: w.body}
	w.body = outer
	return made
}

// local gives a variable the next slot.
func (w *writer) local(name string) int {
	slot := w.locals.Len()
	w.locals.Push(name)
	w.body.Slots = max(w.body.Slots, w.locals.Len())
	return slot
}

// step writes an instruction, and answers its place.
func (w *writer) step(op code.Op, arg, line int) int {
	w.body.Steps = append(w.body.Steps, code.Instruction{Op: op, Arg: arg, Line: line})
	return w.here() - 1
}

func (w *writer) constant(v value.Value) {
	w.body.Steps = append(w.body.Steps, code.Instruction{Op: code.Constant, Value: v})
}

func (w *writer) here() int {
	return len(w.body.Steps)
}

// land lets a jump that was written ahead lead to here.
func (w *writer) land(jump int) {
	w.body.Steps[jump].Arg = w.here()
}

func (w *writer) block(body []tree.Statement) {
	outer := w.locals.Len()
	w.statements(body)
	w.locals.Cut(outer)
}

func (w *writer) statements(body []tree.Statement) {
	for _, s := range body {
		w.statement(s)
	}
}

func (w *writer) statement(s tree.Statement) {
	switch s := s.(type) {
	case *tree.Let:
		w.expr(s.Value)
		w.step(code.Store, w.local(s.Ident.Name), 0)
	case *tree.If:
		w.branch(s)
	case *tree.While:
		w.loop(s)
	case *tree.Return:
		w.leave(s)
	case *tree.Break:
		open := w.loops.Top()
		open.breaks = append(open.breaks, w.step(code.Jump, 0, 0))
	case *tree.Continue:
		w.step(code.Jump, w.loops.Top().start, 0)
	case *tree.Print:
		w.expr(s.Value)
		w.step(code.Print, 0, s.Line)
	case *tree.Set:
		w.set(s)
	case *tree.Do:
		w.expr(s.Value)
		w.step(code.Drop, 0, 0)
	}
}

func (w *writer) branch(s *tree.If) {
	w.expr(s.Cond)
	over := w.step(code.Unless, 0, s.Line)
	w.block(s.Then)
	end := w.step(code.Jump, 0, 0)
	w.land(over)
	w.block(s.Else)
	w.land(end)
}

func (w *writer) loop(s *tree.While) {
	open := &loop{start: w.here()}
	w.loops.Push(open)
	w.expr(s.Cond)
	over := w.step(code.Round, 0, s.Line)
	w.block(s.Body)
	w.step(code.Jump, open.start, 0)
	w.land(over)
	for _, jump := range open.breaks {
		w.land(jump)
	}
	w.loops.Pop()
}

func (w *writer) leave(s *tree.Return) {
	if s.Value == nil {
		w.step(code.ReturnNull, 0, 0)
		return
	}
	w.expr(s.Value)
	w.step(code.Return, 0, 0)
}

func (w *writer) set(s *tree.Set) {
	switch target := s.Target.(type) {
	case *tree.Var:
		w.expr(s.Value)
		w.variable(target.Name, code.Store, code.StoreGlobal)
	case *tree.Index:
		w.expr(target.Of)
		w.expr(target.Place)
		w.expr(s.Value)
		w.step(code.SetIndex, 0, target.Line)
	}
}

// variable writes what is to be done with a variable, of its two ways the one for where it was let.
func (w *writer) variable(name string, local, global code.Op) {
	// The innermost one of a name was let last.
	for slot := w.locals.Len() - 1; slot >= 0; slot-- {
		if w.locals.At(slot) == name {
			w.step(local, slot, 0)
			return
		}
	}
	for slot, other := range w.globals {
		if other == name {
			w.step(global, slot, 0)
			return
		}
	}
}
