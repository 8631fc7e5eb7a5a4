// Package tree: what a program is made of, once it was read.
//
// A Line is that of the token which faults and errors are told of.
package tree

import "gambit/scan"

// Program is a whole text; functions stand among its statements, so that the order of the text is kept.
type Program struct {
	Body []Statement
}

// Statement is a pointer to one of the statements below.
type Statement interface{ statement() }

// Expr is a pointer to one of the expressions below.
type Expr interface{ expr() }

// Ident is a name where it is made known.
type Ident struct {
	Line int
	Name string
}

// Function stands only in a program's own body.
type Function struct {
	Ident  Ident
	Params []Ident
	Body   []Statement
}

type Let struct {
	Ident Ident
	Value Expr
}

type If struct {
	Line       int
	Cond       Expr
	Then, Else []Statement
}

type While struct {
	Line int
	Cond Expr
	Body []Statement
}

// Return has no Value if none is written.
type Return struct {
	Line  int
	Value Expr
}

type Break struct{ Line int }

type Continue struct{ Line int }

type Print struct {
	Line  int
	Value Expr
}

// Set has as its Target a Var or an Index.
type Set struct {
	Target, Value Expr
}

// Do is an expression that stands alone.
type Do struct{ Value Expr }

type Int struct{ Value int64 }

type String struct{ Value string }

type Bool struct{ Value bool }

type Null struct{}

// Group is what stands in parentheses: it is kept since `(a) = 1;` is no program.
type Group struct{ Inner Expr }

type List struct {
	Line  int
	Items []Expr
}

type Var struct {
	Line int
	Name string
}

type Call struct {
	Line int
	Name string
	Args []Expr
}

type Len struct {
	Line int
	Of   Expr
}

type Push struct {
	Line        int
	Onto, Value Expr
}

type Index struct {
	Line      int
	Of, Place Expr
}

type Unary struct {
	Line int
	Sign scan.Kind
	Of   Expr
}

type Binary struct {
	Line        int
	Sign        scan.Kind
	Left, Right Expr
}

func (*Function) statement() {}
func (*Let) statement()      {}
func (*If) statement()       {}
func (*While) statement()    {}
func (*Return) statement()   {}
func (*Break) statement()    {}
func (*Continue) statement() {}
func (*Print) statement()    {}
func (*Set) statement()      {}
func (*Do) statement()       {}

func (*Int) expr()    {}
func (*String) expr() {}
func (*Bool) expr()   {}
func (*Null) expr()   {}
func (*Group) expr()  {}
func (*List) expr()   {}
func (*Var) expr()    {}
func (*Call) expr()   {}
func (*Len) expr()    {}
func (*Push) expr()   {}
func (*Index) expr()  {}
func (*Unary) expr()  {}
func (*Binary) expr() {}
