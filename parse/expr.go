package parse

import (
	"strings"

	"merlon/lex"
)

// node makes an expression with those children. It counts it, so it must be called behind the expression's last token.
func (p *parser) node(e Expr, kids ...*Expr) *Expr {
	p.countNode()
	e.Kids = kids
	return &e
}

// full: an expression that may assign.
func (p *parser) full() *Expr {
	p.enter()
	defer p.leave()
	to := p.choice()
	sign := p.now()
	if !assigns(sign.Text) {
		return to
	}
	p.pass()
	return p.node(Expr{Op: Assign, At: sign.At, Text: strings.TrimSuffix(sign.Text, "=")}, to, p.full())
}

// assigns: whether a sign is an assignment's.
func assigns(sign string) bool {
	switch sign {
	case "=", "+=", "-=", "*=", "/=", "%=", "&=", "|=", "^=", "<<=", ">>=":
		return true
	}
	return false
}

// choice: an expression without an assignment.
func (p *parser) choice() *Expr {
	test := p.binary(loosest)
	sign := p.now()
	if !p.take("?") {
		return test
	}
	yes := p.full()
	p.need(":")
	return p.node(Expr{Op: Cond, At: sign.At}, test, yes, p.otherwise())
}

// otherwise: the last part of a choice, which nests though the whole choice doesn't.
func (p *parser) otherwise() *Expr {
	p.enter()
	defer p.leave()
	return p.choice()
}

// loosest is the level of the binary operators that are applied last.
const loosest = 1

// levelOf: how tightly a binary operator binds; 0: the sign is none.
func levelOf(sign string) int {
	switch sign {
	case "||":
		return loosest
	case "&&":
		return 2
	case "|":
		return 3
	case "^":
		return 4
	case "&":
		return 5
	case "==", "!=":
		return 6
	case "<", ">", "<=", ">=":
		return 7
	case "<<", ">>":
		return 8
	case "+", "-":
		return 9
	case "*", "/", "%":
		return 10
	}
	return 0
}

// binary: operands with operators between them that bind at least as tightly as that level.
func (p *parser) binary(level int) *Expr {
	left := p.unary()
	for levelOf(p.now().Text) >= level {
		sign := p.pass()
		// The right operand ends ahead of an operator of the same level: that one takes all that is on its left.
		right := p.binary(levelOf(sign.Text) + 1)
		left = p.node(operation(sign), left, right)
	}
	return left
}

// operation: a binary operator's expression, without its operands.
func operation(sign lex.Token) Expr {
	switch sign.Text {
	case "&&":
		return Expr{Op: And, At: sign.At}
	case "||":
		return Expr{Op: Or, At: sign.At}
	}
	return Expr{Op: Bin, At: sign.At, Text: sign.Text}
}

func (p *parser) unary() *Expr {
	p.enter()
	defer p.leave()
	switch t := p.now(); t.Text {
	case "-", "~", "!", "*", "&":
		p.pass()
		return p.node(Expr{Op: Unary, At: t.At, Text: t.Text}, p.unary())
	case "++", "--":
		p.pass()
		return p.node(Expr{Op: Pre, At: t.At, Text: t.Text}, p.unary())
	case "sizeof":
		p.pass()
		return p.node(Expr{Op: Sizeof, At: t.At, Type: p.typeInParens()})
	case "(":
		if beginsType(p.ahead(1)) {
			return p.node(Expr{Op: Cast, At: t.At, Type: p.typeInParens()}, p.unary())
		}
	}
	return p.postfix(p.primary())
}

func (p *parser) typeInParens() TypeExpr {
	p.need("(")
	t := p.starred()
	p.need(")")
	return t
}

func (p *parser) primary() *Expr {
	switch t := p.now(); t.Kind {
	case lex.Number:
		p.pass()
		return p.node(Expr{Op: Num, At: t.At, Tok: t})
	case lex.Name:
		p.pass()
		return p.node(Expr{Op: Var, At: t.At, Text: t.Text})
	}
	return p.paren()
}

// paren: a full expression in parentheses.
func (p *parser) paren() *Expr {
	p.need("(")
	e := p.full()
	p.need(")")
	return e
}

// postfix: e with all that follows it.
func (p *parser) postfix(e *Expr) *Expr {
	for {
		switch t := p.now(); t.Text {
		case "[":
			p.pass()
			index := p.full()
			p.need("]")
			e = p.node(Expr{Op: Index, At: t.At}, e, index)
		case ".":
			p.pass()
			e = p.node(Expr{Op: Dot, At: t.At, Text: p.needKind(lex.Name).Text}, e)
		case "->":
			p.pass()
			e = p.node(Expr{Op: Arrow, At: t.At, Text: p.needKind(lex.Name).Text}, e)
		case "++", "--":
			p.pass()
			e = p.node(Expr{Op: Post, At: t.At, Text: t.Text}, e)
		case "(":
			e = p.node(Expr{Op: Call, At: t.At}, p.call(e)...)
		default:
			return e
		}
	}
}

// call: what is called, and the arguments.
func (p *parser) call(called *Expr) []*Expr {
	p.need("(")
	kids := []*Expr{called}
	if p.take(")") {
		return kids
	}
	kids = append(kids, p.full())
	for p.take(",") {
		kids = append(kids, p.full())
	}
	p.need(")")
	return kids
}
