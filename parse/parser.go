package parse

import (
	"merlon/api"
	"merlon/lex"
)

// A parser goes through a source's tokens one by one. A fault ends it by a panic with that api.Fault, which Parse catches: no part that is under way has to look out for it, and nothing behind it is read.
type parser struct {
	tokens []lex.Token // the last one is of kind lex.End
	next   int         // the current token's index
	nodes  int         // how many there are
	depth  int         // how many parts that nest are in progress
}

// now: the current token.
func (p *parser) now() lex.Token { return p.ahead(0) }

// ahead: the token n places behind the current one; the last one, if there are fewer.
func (p *parser) ahead(n int) lex.Token {
	return p.tokens[min(p.next+n, len(p.tokens)-1)]
}

// pass goes on to the next token; the token that was the current one.
func (p *parser) pass() lex.Token {
	t := p.now()
	p.next++
	return t
}

// is: whether the current token is that key word or sign. The text is enough: names and numbers have other ones.
func (p *parser) is(text string) bool { return p.now().Text == text }

// take passes the current token if it is that key word or sign.
func (p *parser) take(text string) bool {
	if !p.is(text) {
		return false
	}
	p.pass()
	return true
}

// need passes the current token, which must be that key word or sign.
func (p *parser) need(text string) {
	if !p.take(text) {
		p.fail(api.ErrParse)
	}
}

// needKind passes the current token, which must be of that kind.
func (p *parser) needKind(kind int) lex.Token {
	if p.now().Kind != kind {
		p.fail(api.ErrParse)
	}
	return p.pass()
}

// fail ends the parser with a fault at the current token.
func (p *parser) fail(kind api.Errno) { p.failAt(kind, p.now().At) }

func (p *parser) failAt(kind api.Errno, at int) {
	panic(api.Fault{Kind: kind, At: at})
}

// atMost: n things of a kind must not be more than the limit; the fault is at that offset.
func (p *parser) atMost(limit, n, at int) {
	if n > limit {
		p.failAt(api.ErrCount, at)
	}
}

// countNode counts a node that is made at the current token.
func (p *parser) countNode() {
	p.nodes++
	if p.nodes > api.MaxNodes {
		p.fail(api.ErrSize)
	}
}

// enter begins a part that nests; leave must follow where the part ends.
func (p *parser) enter() {
	p.depth++
	if p.depth > api.MaxNest {
		p.fail(api.ErrDepth)
	}
}

func (p *parser) leave() { p.depth-- }
