package parse

import (
	"gambit/scan"
	"gambit/tree"
)

// The rows of signs between two values, from the loosest to the tightest.
const (
	rowNone = iota
	rowOr
	rowAnd
	rowEqual
	rowLess
	rowSum
	rowProduct
)

func row(sign scan.Kind) int {
	switch sign {
	case scan.Or:
		return rowOr
	case scan.And:
		return rowAnd
	case scan.Equal, scan.NotEqual:
		return rowEqual
	case scan.Less, scan.LessEqual, scan.Greater, scan.GreaterEqual:
		return rowLess
	case scan.Plus, scan.Minus:
		return rowSum
	case scan.Times, scan.Divide, scan.Rest:
		return rowProduct
	}
	return rowNone
}

func (p *parser) expr() tree.Expr {
	return p.binary(rowOr)
}

// binary takes values between signs of this row or of tighter ones.
func (p *parser) binary(loosest int) tree.Expr {
	if loosest > rowProduct {
		return p.unary()
	}
	left := p.binary(loosest + 1)
	for row(p.kind()) == loosest {
		sign := p.take()
		right := p.binary(loosest + 1)
		left = &tree.Binary{Line: sign.Line, Sign: sign.Kind, Left: left, Right: right}
	}
	return left
}

func (p *parser) unary() tree.Expr {
	if p.kind() == scan.Not || p.kind() == scan.Minus {
		sign := p.take()
		return &tree.Unary{Line: sign.Line, Sign: sign.Kind, Of: p.unary()}
	}
	return p.part()
}

func (p *parser) part() tree.Expr {
	part := p.atom()
	for p.kind() == scan.OpenBracket {
		line := p.take().Line
		part = &tree.Index{Line: line, Of: part, Place: p.expr()}
		p.want(scan.CloseBracket)
	}
	return part
}

func (p *parser) atom() tree.Expr {
	switch p.kind() {
	case scan.OpenParen:
		p.take()
		inner := p.expr()
		p.want(scan.CloseParen)
		return &tree.Group{Inner: inner}
	case scan.OpenBracket:
		return &tree.List{Line: p.take().Line, Items: p.items(scan.CloseBracket)}
	case scan.Name:
		return p.varOrCall()
	case scan.Len:
		return p.length()
	case scan.Push:
		return p.push()
	}
	return p.literal()
}

// items takes what stands between commas, and the sign that closes it.
func (p *parser) items(closing scan.Kind) []tree.Expr {
	var items []tree.Expr
	if p.kind() != closing {
		items = append(items, p.expr())
		for p.accept(scan.Comma) {
			items = append(items, p.expr())
		}
	}
	p.want(closing)
	return items
}

func (p *parser) varOrCall() tree.Expr {
	name := p.take()
	if p.accept(scan.OpenParen) {
		return &tree.Call{Line: name.Line, Name: name.Text, Args: p.items(scan.CloseParen)}
	}
	return &tree.Var{Line: name.Line, Name: name.Text}
}

func (p *parser) length() tree.Expr {
	line := p.take().Line
	p.want(scan.OpenParen)
	of := p.expr()
	p.want(scan.CloseParen)
	return &tree.Len{Line: line, Of: of}
}

func (p *parser) push() tree.Expr {
	line := p.take().Line
	p.want(scan.OpenParen)
	onto := p.expr()
	p.want(scan.Comma)
	value := p.expr()
	p.want(scan.CloseParen)
	return &tree.Push{Line: line, Onto: onto, Value: value}
}

func (p *parser) literal() tree.Expr {
	switch p.kind() {
	case scan.Int:
		return &tree.Int{Value: p.take().Value}
	case scan.String:
		return &tree.String{Value: p.take().Text}
	case scan.True, scan.False:
		return &tree.Bool{Value: p.take().Kind == scan.True}
	case scan.Null:
		p.take()
		return &tree.Null{}
	}
	p.fail()
	return &tree.Null{}
}
