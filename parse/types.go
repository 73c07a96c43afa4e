package parse

import (
	"merlon/api"
	"merlon/lex"
)

// maxDims is how many lengths of arrays one declaration may have.
const maxDims = 4

// beginsType: whether a token begins a type, and with it a declaration.
func beginsType(t lex.Token) bool {
	switch t.Text {
	case "void", "unsigned", "signed", "struct", "secret", "public":
		return true
	}
	return isLength(t)
}

// isLength: whether a token is a word that tells how long an integer is.
func isLength(t lex.Token) bool {
	switch t.Text {
	case "char", "short", "int", "long":
		return true
	}
	return false
}

func (p *parser) spec() Spec {
	s := Spec{At: p.now().At}
	s.Secret = p.take("secret")
	if !s.Secret {
		p.take("public")
	}
	switch t := p.now(); {
	case p.take("struct"):
		s.Word = t.Text
		s.Struct = p.needKind(lex.Name).Text
	case p.take("void"):
		s.Word = t.Text
	case p.take("unsigned"), p.take("signed"):
		s.Unsigned = t.Text == "unsigned"
		s.Word = "int"
		if isLength(p.now()) {
			s.Word = p.pass().Text
		}
	case isLength(t):
		s.Word = p.pass().Text
	default:
		p.fail(api.ErrParse)
	}
	return s
}

// starred: a spec and its stars.
func (p *parser) starred() TypeExpr {
	t := TypeExpr{Spec: p.spec()}
	for p.take("*") {
		t.Stars++
	}
	return t
}

func (p *parser) decl() Decl {
	t := p.starred()
	t.IsFn = p.take("(")
	if t.IsFn {
		p.need("*")
	}
	name := p.needKind(lex.Name)
	t.Dims = p.dims()
	if t.IsFn {
		p.need(")")
		t.Fn = list(p, p.starred)
	}
	return Decl{Type: t, Name: name.Text, At: name.At}
}

func (p *parser) dims() []int {
	var dims []int
	for p.take("[") {
		at := p.now().At
		n := p.needKind(lex.Number).Value
		if n == 0 || n > api.MaxArray {
			p.failAt(api.ErrConst, at)
		}
		dims = append(dims, int(n))
		p.atMost(maxDims, len(dims), at)
		p.need("]")
	}
	return dims
}

// list: parts in parentheses, with commas between them; none at all may also be written as void.
func list[T any](p *parser, part func() T) []T {
	p.need("(")
	if p.is("void") && p.ahead(1).Text == ")" {
		p.pass()
	}
	if p.take(")") {
		return nil
	}
	parts := []T{part()}
	for p.take(",") {
		parts = append(parts, part())
		p.atMost(api.MaxParams, len(parts), p.now().At)
	}
	p.need(")")
	return parts
}
