// Package check looks over the names of a program and the places of its statements.
package check

import (
	"gambit/api"
	"gambit/stack"
	"gambit/tree"
)

// A checker walks a program in the order of its text, so that the first fault it meets is the one to tell.
type checker struct {
	functions  []*tree.Function         // all, since they are seen everywhere
	reached    int                      // how many of them the walk came to
	names      stack.Stack[string]      // the variables that can be seen, inner ones on top
	blocks     stack.Stack[int]         // of each open block, how many names were seen where it began
	loops      stack.Stack[*tree.While] // those that are open
	inFunction bool
	fault      api.Fault
}

// Program answers the first fault in the order of the text, or one of zeros.
func Program(program *tree.Program) api.Fault {
	c := &checker{functions: Functions(program)}
	c.block(program.Body)
	return c.fault
}

// Functions answers a program's functions in the order of the text.
func Functions(program *tree.Program) []*tree.Function {
	var functions []*tree.Function
	for _, s := range program.Body {
		if f, ok := s.(*tree.Function); ok {
			functions = append(functions, f)
		}
	}
	return functions
}

func (c *checker) fail(code api.Errno, line int) {
	if c.fault.Code == api.OK {
		c.fault = api.Fault{Code: code, Line: line}
	}
}

func (c *checker) block(body []tree.Statement) {
	c.open()
	c.statements(body)
	c.close()
}

func (c *checker) open() {
	c.blocks.Push(c.names.Len())
}

func (c *checker) close() {
	c.names.Cut(c.blocks.Pop())
}

func (c *checker) statements(body []tree.Statement) {
	for _, s := range body {
		c.statement(s)
	}
}

func (c *checker) statement(s tree.Statement) {
	switch s := s.(type) {
	case *tree.Function:
		c.function(s)
	case *tree.Let:
		c.fresh(s.Ident)
		c.expr(s.Value)
		c.names.Push(s.Ident.Name)
	case *tree.If:
		c.expr(s.Cond)
		c.block(s.Then)
		c.block(s.Else)
	case *tree.While:
		c.expr(s.Cond)
		c.loops.Push(s)
		c.block(s.Body)
		c.loops.Pop()
	case *tree.Return:
		c.leave(s)
	case *tree.Break:
		c.inLoop(s.Line)
	case *tree.Continue:
		c.inLoop(s.Line)
	case *tree.Print:
		c.expr(s.Value)
	case *tree.Set:
		c.expr(s.Target)
		c.expr(s.Value)
	case *tree.Do:
		c.expr(s.Value)
	}
}

func (c *checker) function(f *tree.Function) {
	if named(c.functions[:c.reached], f.Ident.Name) != nil {
		c.fail(api.ErrName, f.Ident.Line)
	}
	c.reached++
	c.inFunction = true
	c.open()
	// Parameters share the block of the body, where none of their names may be let again.
	for _, param := range f.Params {
		c.fresh(param)
		c.names.Push(param.Name)
	}
	c.statements(f.Body)
	c.close()
	c.inFunction = false
}

// fresh asks for a name that the innermost block does not have yet.
func (c *checker) fresh(ident tree.Ident) {
	if c.seen(ident.Name, c.blocks.Top()) {
		c.fail(api.ErrName, ident.Line)
	}
}

// seen tells if a variable is among those from a place on.
func (c *checker) seen(name string, from int) bool {
	for i := from; i < c.names.Len(); i++ {
		if c.names.At(i) == name {
			return true
		}
	}
	return false
}

func (c *checker) leave(s *tree.Return) {
	if !c.inFunction {
		c.fail(api.ErrPlace, s.Line)
	}
	if s.Value != nil {
		c.expr(s.Value)
	}
}

// inLoop need not ask for the function: none stands in a loop, so the loops that are open are its own.
func (c *checker) inLoop(line int) {
	if c.loops.Len() == 0 {
		c.fail(api.ErrPlace, line)
	}
}

func (c *checker) expr(e tree.Expr) {
	switch e := e.(type) {
	case *tree.Var:
		if !c.seen(e.Name, 0) {
			c.fail(api.ErrName, e.Line)
		}
	case *tree.Call:
		c.call(e)
	case *tree.Group:
		c.expr(e.Inner)
	case *tree.List:
		c.exprs(e.Items)
	case *tree.Len:
		c.expr(e.Of)
	case *tree.Push:
		c.expr(e.Onto)
		c.expr(e.Value)
	case *tree.Index:
		c.expr(e.Of)
		c.expr(e.Place)
	case *tree.Unary:
		c.expr(e.Of)
	case *tree.Binary:
		c.expr(e.Left)
		c.expr(e.Right)
	}
}

func (c *checker) exprs(list []tree.Expr) {
	for _, e := range list {
		c.expr(e)
	}
}

// call is looked over ahead of its arguments, since its name stands ahead of them.
func (c *checker) call(e *tree.Call) {
	f := named(c.functions, e.Name)
	if f == nil || len(f.Params) != len(e.Args) {
		c.fail(api.ErrName, e.Line)
	}
	c.exprs(e.Args)
}

// named answers the first function of a name: a later one is a fault and does not have it.
func named(functions []*tree.Function, name string) *tree.Function {
	for _, f := range functions {
		if f.Ident.Name == name {
			return f
		}
	}
	return nil
}
