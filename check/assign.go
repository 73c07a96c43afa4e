package check

import (
	"merlon/api"
	"merlon/ctype"
	"merlon/parse"
)

// give: a value as one of type t, to which it must be assignable.
func (c *checker) give(n *Node, t api.Type, at int) *Node {
	if isInt(t) && isInt(n.Type) {
		if n.Type.Secret && !t.Secret {
			return c.bad(api.ErrFlow, at)
		}
		return convert(n, t)
	}
	p, ok := asPointer(n, t)
	if !ok || !isPtr(t) {
		return c.bad(api.ErrType, at)
	}
	if p.Hid {
		return c.bad(api.ErrFlow, at)
	}
	return p
}

// assign: = and those with an operator.
func (c *checker) assign(e *parse.Expr) *Node {
	to := c.place(e.Kids[0])
	if to.Type.Kind == api.Array {
		return c.bad(api.ErrPlace, e.Kids[0].At)
	}
	from := c.expr(e.Kids[1])
	switch {
	case e.Text != "":
		return c.assignOp(e.Text, e.At, to, load(from))
	case to.Type.Kind == api.Struct:
		return c.copyTo(e.At, to, from)
	}
	v := c.give(load(from), to.Type, e.At)
	c.mayModify(e.At, to)
	return &Node{Op: Assign, At: e.At, Type: to.Type, Kids: []*Node{to, v}}
}

// mayModify: what is hidden may only be modified if it is a secret integer.
func (c *checker) mayModify(at int, to *Node) {
	if to.Hid && !to.Type.Secret {
		c.fail(api.ErrFlow, at)
	}
}

// copyTo: a struct that becomes a copy of another one. No value is a struct: what has such a type is an lvalue.
func (c *checker) copyTo(at int, to, from *Node) *Node {
	size := c.prog.Table.Size(to.Type)
	switch {
	case !ctype.Same(to.Type, from.Type):
		return c.bad(api.ErrType, at)
	case to.Hid || from.Hid:
		return c.bad(api.ErrFlow, at)
	case size > api.MaxCopy:
		return c.bad(api.ErrSize, at)
	}
	return &Node{Op: CopyTo, At: at, Type: ctype.VoidType(), Num: int64(size), Kids: []*Node{to, from}}
}

func (c *checker) assignOp(op string, at int, to, v *Node) *Node {
	n := &Node{Op: AssignOp, At: at, Type: to.Type, Text: op}
	size := c.pointed(to)
	switch {
	case isInt(to.Type) && isInt(v.Type):
		n.Via = resultType(op, to.Type, v.Type)
		n.Kids = []*Node{to, operand(op, v, n.Via)}
	case (op == "+" || op == "-") && size > 0 && isInt(v.Type):
		n.Num = stride(op, size)
		n.Kids = []*Node{to, distance(v)}
	default:
		return c.bad(api.ErrType, at)
	}
	if v.Type.Secret && !to.Type.Secret {
		c.fail(api.ErrFlow, at)
	}
	c.mayModify(at, to)
	return n
}

// step: ++ and --, ahead of a place or behind it.
func (c *checker) step(e *parse.Expr) *Node {
	to := c.place(e.Kids[0])
	n := &Node{Op: Step, At: e.At, Type: to.Type, Text: "pre", Kids: []*Node{to}}
	if e.Op == parse.Post {
		n.Text = "post"
	}
	size := c.pointed(to)
	if isInt(to.Type) {
		size = 1
	}
	if size == 0 {
		return c.bad(api.ErrType, e.At)
	}
	n.Num = stride(e.Text[:1], size)
	c.mayModify(e.At, to)
	return n
}
