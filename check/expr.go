package check

import (
	"merlon/api"
	"merlon/arith"
	"merlon/ctype"
	"merlon/parse"
)

// expr: an expression, which is a place or a value.
func (c *checker) expr(e *parse.Expr) *Node {
	switch e.Op {
	case parse.Num:
		return &Node{Op: Const, At: e.At, Type: numberType(e), Num: int64(e.Tok.Value)}
	case parse.Var:
		return c.name(e)
	case parse.Call:
		return c.call(e)
	case parse.Index:
		return c.index(e)
	case parse.Dot:
		return c.dot(e)
	case parse.Arrow:
		return c.arrow(e)
	case parse.Unary:
		return c.unary(e)
	case parse.Pre, parse.Post:
		return c.step(e)
	case parse.Sizeof:
		return c.sizeof(e)
	case parse.Cast:
		return c.cast(e)
	case parse.Bin:
		a := c.value(e.Kids[0])
		b := c.value(e.Kids[1])
		return c.binary(e.Text, e.At, a, b)
	case parse.And:
		return c.both(And, e)
	case parse.Or:
		return c.both(Or, e)
	case parse.Cond:
		return c.choice(e)
	}
	return c.assign(e)
}

// numberType: the type of a number as it is written.
func numberType(e *parse.Expr) api.Type {
	n := e.Tok
	size, short := 8, uint64(1)<<31
	if n.Unsigned {
		short = 1 << 32
	}
	if !n.Long && n.Value < short {
		size = 4
	}
	return ctype.IntOf(size, !n.Unsigned && n.Value < 1<<63)
}

// isZero: whether a value is the number 0 as it is written. No other expression becomes a Const of 0: a cast becomes a Conv, and nothing has the size 0.
func isZero(n *Node) bool { return n.Op == Const && n.Num == 0 }

// integer: an expression that must have an integer as its value.
func (c *checker) integer(e *parse.Expr) *Node {
	n := c.value(e)
	if !isInt(n.Type) {
		return c.bad(api.ErrType, e.At)
	}
	return n
}

// condition: whether an expression isn't 0.
func (c *checker) condition(e *parse.Expr) *Node { return c.truth("", e.At, e) }

// truth: whether an expression isn't 0, or for "!" whether it is.
func (c *checker) truth(sign string, at int, e *parse.Expr) *Node {
	n := c.value(e)
	if !isScalar(n.Type) {
		return c.bad(api.ErrType, e.At)
	}
	return &Node{Op: Truth, At: at, Type: intType(isSecret(n)), Text: sign, Kids: []*Node{n}}
}

// convert: an integer as one of another type.
func convert(n *Node, t api.Type) *Node {
	if ctype.Same(n.Type, t) {
		return n
	}
	return conversion(n, t, n.At)
}

func conversion(n *Node, t api.Type, at int) *Node {
	return &Node{Op: Conv, At: at, Type: t, Kids: []*Node{n}}
}

// asPointer: a value as a pointer of type t: it has that type, or is the number 0; false: neither.
func asPointer(n *Node, t api.Type) (*Node, bool) {
	if isZero(n) {
		return &Node{Op: NullValue, At: n.At, Type: t}, true
	}
	return n, ctype.Same(n.Type, t)
}

// pointers: two values as pointers of one type; false: they are none.
func pointers(a, b *Node) (*Node, *Node, bool) {
	if isPtr(a.Type) {
		q, ok := asPointer(b, a.Type)
		return a, q, ok
	}
	if isPtr(b.Type) {
		p, ok := asPointer(a, b.Type)
		return p, b, ok
	}
	return nil, nil, false
}

func (c *checker) sizeof(e *parse.Expr) *Node {
	size := c.prog.Table.Size(c.typeOf(e.Type))
	if size == 0 {
		return c.bad(api.ErrType, e.At)
	}
	return &Node{Op: Const, At: e.At, Type: longType(false, false), Num: int64(size)}
}

func (c *checker) cast(e *parse.Expr) *Node {
	t := c.typeOf(e.Type)
	if !isInt(t) {
		return c.bad(api.ErrType, e.At)
	}
	n := c.integer(e.Kids[0])
	return conversion(n, withSecret(t, isSecret(n)), e.At)
}

func (c *checker) unary(e *parse.Expr) *Node {
	switch e.Text {
	case "&":
		return c.address(e)
	case "*":
		return c.target(c.value(e.Kids[0]), e.At)
	case "!":
		return c.truth("!", e.At, e.Kids[0])
	case "-":
		return c.fromConst("-", 0, e)
	}
	return c.fromConst("^", -1, e)
}

// fromConst: an operator of a number and of what e has as its operand.
func (c *checker) fromConst(op string, n int64, e *parse.Expr) *Node {
	v := c.integer(e.Kids[0])
	t := ctype.Promote(v.Type)
	first := &Node{Op: Const, At: e.At, Type: t, Num: arith.Fit(t, n)}
	return &Node{Op: Bin, At: e.At, Type: t, Text: op, Kids: []*Node{first, convert(v, t)}}
}

// both: && or ||.
func (c *checker) both(op int, e *parse.Expr) *Node {
	a := c.condition(e.Kids[0])
	b := c.condition(e.Kids[1])
	return &Node{Op: op, At: e.At, Type: intType(isSecret(a) || isSecret(b)), Kids: []*Node{a, b}}
}

// choice: one of two values, by a condition, on which the result depends, too.
func (c *checker) choice(e *parse.Expr) *Node {
	test := c.condition(e.Kids[0])
	a := c.value(e.Kids[1])
	b := c.value(e.Kids[2])
	if isInt(a.Type) && isInt(b.Type) {
		t := withSecret(ctype.Common(a.Type, b.Type), isSecret(test))
		return &Node{Op: Cond, At: e.At, Type: t, Kids: []*Node{test, convert(a, t), convert(b, t)}}
	}
	p, q, ok := pointers(a, b)
	if !ok {
		return c.bad(api.ErrType, e.At)
	}
	hidden := isSecret(test) || p.Hid || q.Hid
	return &Node{Op: Cond, At: e.At, Type: p.Type, Hid: hidden, Kids: []*Node{test, p, q}}
}
