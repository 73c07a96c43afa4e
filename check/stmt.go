package check

import (
	"merlon/api"
	"merlon/arith"
	"merlon/ctype"
	"merlon/parse"
)

func (c *checker) stmt(s *parse.Stmt) *Stmt {
	n := &Stmt{Kind: s.Kind, At: s.At}
	switch s.Kind {
	case parse.Do:
		n.E = c.done(s.E)
	case parse.Let:
		c.let(s, n)
	case parse.Block:
		c.open()
		n.Kids = c.stmts(s.Kids)
		c.shut()
	case parse.If:
		n.E = c.condition(s.E)
		for _, k := range s.Kids {
			n.Kids = append(n.Kids, c.scoped(k))
		}
	case parse.While:
		n.E = c.condition(s.E)
		n.Kids = []*Stmt{c.repeated(s.Kids[0])}
	case parse.Until:
		n.Kids = []*Stmt{c.repeated(s.Kids[0])}
		n.E = c.condition(s.E)
	case parse.For:
		c.open()
		c.forLoop(s, n)
		c.shut()
	case parse.Switch:
		c.switched(s, n)
	case parse.Break, parse.Continue:
		c.jump(s)
	case parse.Return:
		n.E = c.returned(s)
	}
	return n
}

func (c *checker) stmts(list []*parse.Stmt) []*Stmt {
	var all []*Stmt
	for _, s := range list {
		all = append(all, c.stmt(s))
	}
	return all
}

// scoped: a statement that is a scope of its own.
func (c *checker) scoped(s *parse.Stmt) *Stmt {
	c.open()
	defer c.shut()
	return c.stmt(s)
}

// repeated: a loop's statement.
func (c *checker) repeated(s *parse.Stmt) *Stmt {
	c.loops++
	defer func() { c.loops-- }()
	return c.scoped(s)
}

// done: an expression that is a statement, or a step.
func (c *checker) done(e *parse.Expr) *Node {
	n := c.value(e)
	if n.Type.Kind == api.Struct {
		return c.bad(api.ErrType, e.At)
	}
	return n
}

// let: a declaration. The local isn't visible yet in its own initial value.
func (c *checker) let(s *parse.Stmt, n *Stmt) {
	d := s.Decl
	t := c.typeOf(d.Type)
	var from *Node
	if s.E != nil {
		from = c.expr(s.E)
	}
	n.Local = c.addLocal(d, t)
	if from == nil {
		return
	}
	if t.Kind == api.Struct {
		n.E = c.copyTo(d.At, &Node{Op: Local, At: d.At, Type: t, Ref: n.Local}, from)
		return
	}
	n.E = c.give(load(from), t, d.At)
}

func (c *checker) forLoop(s *parse.Stmt, n *Stmt) {
	first := c.stmt(s.Kids[0])
	if s.E != nil {
		n.E = c.condition(s.E)
	}
	if s.Step != nil {
		n.Step = c.done(s.Step)
	}
	n.Kids = []*Stmt{first, c.repeated(s.Kids[1])}
}

func (c *checker) jump(s *parse.Stmt) {
	within := c.loops
	if s.Kind == parse.Break {
		within += c.cases
	}
	if within == 0 {
		c.fail(api.ErrJump, s.At)
	}
}

func (c *checker) returned(s *parse.Stmt) *Node {
	ret := *c.fn.Type.Ret
	if s.E == nil {
		if ret.Kind != api.Void {
			c.fail(api.ErrType, s.At)
		}
		return nil
	}
	return c.give(c.value(s.E), ret, s.At)
}

// switched: a switch. All its statements are one scope.
func (c *checker) switched(s *parse.Stmt, n *Stmt) {
	e := c.integer(s.E)
	t := ctype.Promote(e.Type)
	n.E = convert(e, t)
	c.open()
	c.cases++
	seen := map[int64]struct{}{}
	hasDefault := false
	for _, g := range s.Cases {
		k := Case{Default: g.Default}
		for _, v := range g.Values {
			k.Values = append(k.Values, c.caseValue(v, t, seen))
		}
		if g.Default && hasDefault {
			c.fail(api.ErrJump, g.At)
		}
		hasDefault = hasDefault || g.Default
		k.Body = c.stmts(g.Body)
		n.Cases = append(n.Cases, k)
	}
	c.cases--
	c.shut()
}

// caseValue: a value of a switch over numbers of type t, and of those that were seen.
func (c *checker) caseValue(e *parse.Expr, t api.Type, seen map[int64]struct{}) int64 {
	num, known := Value(c.integer(e))
	if !known {
		c.fail(api.ErrConst, e.At)
	}
	num = arith.Fit(t, num)
	if _, found := seen[num]; found {
		c.fail(api.ErrJump, e.At)
	}
	seen[num] = struct{}{}
	return num
}
