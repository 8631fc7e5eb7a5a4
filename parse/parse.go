// Package parse builds the tree of a program by its grammar.
package parse

import (
	"gambit/api"
	"gambit/scan"
	"gambit/tree"
)

// A parser that failed stands at the End for good, where every loop stops and nothing more is taken.
type parser struct {
	tokens []scan.Token
	at     int
	fault  api.Fault
}

// Program answers the tree of tokens that scan.Scan made, or the fault: by the grammar, else of what is nested too deep.
func Program(tokens []scan.Token) (*tree.Program, api.Fault) {
	p := &parser{tokens: tokens}
	program := p.program()
	if p.fault.Code != api.OK {
		return nil, p.fault
	}
	if fault := nesting(tokens); fault.Code != api.OK {
		return nil, fault
	}
	return program, api.Fault{}
}

// nesting looks at the tokens of a whole program, where all that opens is also closed.
func nesting(tokens []scan.Token) api.Fault {
	open := 0
	for _, token := range tokens {
		switch token.Kind {
		case scan.OpenParen, scan.OpenBracket, scan.OpenBrace:
			if open == api.MaxNest {
				return api.Fault{Code: api.ErrLimit, Line: token.Line}
			}
			open++
		case scan.CloseParen, scan.CloseBracket, scan.CloseBrace:
			open--
		}
	}
	return api.Fault{}
}

func (p *parser) kind() scan.Kind {
	return p.tokens[p.at].Kind
}

func (p *parser) take() scan.Token {
	token := p.tokens[p.at]
	if token.Kind != scan.End {
		p.at++
	}
	return token
}

func (p *parser) want(kind scan.Kind) scan.Token {
	if p.kind() != kind {
		p.fail()
	}
	return p.take()
}

func (p *parser) accept(kind scan.Kind) bool {
	if p.kind() != kind {
		return false
	}
	p.take()
	return true
}

func (p *parser) fail() {
	if p.fault.Code == api.OK {
		p.fault = api.Fault{Code: api.ErrSyntax, Line: p.tokens[p.at].Line}
	}
	p.at = len(p.tokens) - 1
}

func (p *parser) program() *tree.Program {
	program := &tree.Program{}
	for p.kind() != scan.End {
		if p.kind() == scan.Fn {
			program.Body = append(program.Body, p.function())
		} else {
			program.Body = append(program.Body, p.statement())
		}
	}
	return program
}

func (p *parser) function() tree.Statement {
	p.want(scan.Fn)
	return &tree.Function{Ident: p.ident(), Params: p.params(), Body: p.block()}
}

func (p *parser) ident() tree.Ident {
	token := p.want(scan.Name)
	return tree.Ident{Line: token.Line, Name: token.Text}
}

func (p *parser) params() []tree.Ident {
	var params []tree.Ident
	p.want(scan.OpenParen)
	if p.kind() != scan.CloseParen {
		params = append(params, p.ident())
		for p.accept(scan.Comma) {
			params = append(params, p.ident())
		}
	}
	p.want(scan.CloseParen)
	return params
}

func (p *parser) block() []tree.Statement {
	var body []tree.Statement
	p.want(scan.OpenBrace)
	for p.kind() != scan.CloseBrace && p.kind() != scan.End {
		body = append(body, p.statement())
	}
	p.want(scan.CloseBrace)
	return body
}

func (p *parser) statement() tree.Statement {
	switch p.kind() {
	case scan.Let:
		return p.let()
	case scan.If:
		return p.branch()
	case scan.While:
		return &tree.While{Line: p.take().Line, Cond: p.expr(), Body: p.block()}
	}
	statement := p.simple()
	p.want(scan.Semicolon)
	return statement
}

func (p *parser) let() tree.Statement {
	p.want(scan.Let)
	ident := p.ident()
	p.want(scan.Assign)
	value := p.expr()
	p.want(scan.Semicolon)
	return &tree.Let{Ident: ident, Value: value}
}

func (p *parser) branch() tree.Statement {
	branch := &tree.If{Line: p.take().Line, Cond: p.expr(), Then: p.block()}
	if p.accept(scan.Else) {
		branch.Else = p.block()
	}
	return branch
}

// simple takes a statement of one line up to its semicolon.
func (p *parser) simple() tree.Statement {
	switch p.kind() {
	case scan.Return:
		back := &tree.Return{Line: p.take().Line}
		if p.kind() != scan.Semicolon {
			back.Value = p.expr()
		}
		return back
	case scan.Break:
		return &tree.Break{Line: p.take().Line}
	case scan.Continue:
		return &tree.Continue{Line: p.take().Line}
	case scan.Print:
		return &tree.Print{Line: p.take().Line, Value: p.expr()}
	}
	value := p.expr()
	if canBeSet(value) && p.accept(scan.Assign) {
		return &tree.Set{Target: value, Value: p.expr()}
	}
	return &tree.Do{Value: value}
}

func canBeSet(e tree.Expr) bool {
	switch e.(type) {
	case *tree.Var, *tree.Index:
		return true
	}
	return false
}
