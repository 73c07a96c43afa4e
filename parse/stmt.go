package parse

import "merlon/api"

// begin makes a statement that begins at the current token.
func (p *parser) begin() *Stmt {
	p.countNode()
	return &Stmt{Kind: Empty, At: p.now().At}
}

func (p *parser) stmt() *Stmt {
	s := p.begin()
	p.enter()
	defer p.leave()
	switch p.now().Text {
	case ";":
		p.pass()
	case "{":
		p.block(s)
	case "if":
		p.branch(s)
	case "while":
		p.whileLoop(s)
	case "do":
		p.untilLoop(s)
	case "for":
		p.forLoop(s)
	case "switch":
		p.switched(s)
	default:
		p.jumpOrSimple(s)
		p.need(";")
	}
	return s
}

// jumpOrSimple: what has no statements in it, without the sign at its end.
func (p *parser) jumpOrSimple(s *Stmt) {
	switch {
	case p.take("break"):
		s.Kind = Break
	case p.take("continue"):
		s.Kind = Continue
	case p.take("return"):
		s.Kind = Return
		s.E = p.fullUnless(";")
	default:
		p.simple(s)
	}
}

// simple: a declaration, or an expression.
func (p *parser) simple(s *Stmt) {
	if !beginsType(p.now()) {
		s.Kind = Do
		s.E = p.full()
		return
	}
	s.Kind = Let
	s.Decl = p.decl()
	if p.take("=") {
		s.E = p.full()
	}
}

// fullUnless: an expression that may be missing ahead of that sign; nil: it is.
func (p *parser) fullUnless(sign string) *Expr {
	if p.is(sign) {
		return nil
	}
	return p.full()
}

func (p *parser) block(s *Stmt) {
	s.Kind = Block
	p.need("{")
	for !p.take("}") {
		s.Kids = append(s.Kids, p.stmt())
	}
}

func (p *parser) branch(s *Stmt) {
	s.Kind = If
	p.need("if")
	s.E = p.paren()
	s.Kids = append(s.Kids, p.stmt())
	if p.take("else") {
		s.Kids = append(s.Kids, p.stmt())
	}
}

func (p *parser) whileLoop(s *Stmt) {
	s.Kind = While
	p.need("while")
	s.E = p.paren()
	s.Kids = append(s.Kids, p.stmt())
}

func (p *parser) untilLoop(s *Stmt) {
	s.Kind = Until
	p.need("do")
	s.Kids = append(s.Kids, p.stmt())
	p.need("while")
	s.E = p.paren()
	p.need(";")
}

func (p *parser) forLoop(s *Stmt) {
	s.Kind = For
	p.need("for")
	p.need("(")
	first := p.begin()
	if !p.is(";") {
		p.simple(first)
	}
	p.need(";")
	s.E = p.fullUnless(";")
	p.need(";")
	s.Step = p.fullUnless(")")
	p.need(")")
	s.Kids = append(s.Kids, first, p.stmt())
}

func (p *parser) switched(s *Stmt) {
	s.Kind = Switch
	p.need("switch")
	s.E = p.paren()
	p.need("{")
	for !p.take("}") {
		// Statements go to the group ahead of them: what is no label here stands ahead of the first one.
		if !p.isLabel() {
			p.fail(api.ErrParse)
		}
		p.atMost(api.MaxCases, len(s.Cases)+1, p.now().At)
		s.Cases = append(s.Cases, p.group())
	}
}

func (p *parser) isLabel() bool { return p.is("case") || p.is("default") }

// group: labels that follow one another, and the statements behind them.
func (p *parser) group() Case {
	c := Case{At: p.now().At}
	for p.isLabel() {
		p.label(&c)
	}
	for !p.is("}") && !p.isLabel() {
		c.Body = append(c.Body, p.stmt())
	}
	return c
}

// label adds one to its group. A value is counted behind its end, so that its own faults come first.
func (p *parser) label(c *Case) {
	at := p.now().At
	if p.take("default") {
		if c.Default {
			p.failAt(api.ErrJump, at)
		}
		c.Default = true
	} else {
		p.need("case")
		c.Values = append(c.Values, p.choice())
		p.atMost(api.MaxCases, len(c.Values), at)
	}
	p.need(":")
}
