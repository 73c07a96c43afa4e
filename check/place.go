package check

import (
	"merlon/api"
	"merlon/ctype"
	"merlon/parse"
)

// isPlace: whether a node is an lvalue.
func isPlace(n *Node) bool {
	switch n.Op {
	case Global, Local, Deref, Field:
		return true
	}
	return false
}

// isSecret: whether a value depends on a secret. Only the types of integers are ever Secret.
func isSecret(n *Node) bool { return n.Hid || n.Type.Secret }

// place: an expression that must be an lvalue.
func (c *checker) place(e *parse.Expr) *Node {
	n := c.expr(e)
	if !isPlace(n) {
		return c.bad(api.ErrPlace, e.At)
	}
	return n
}

// value: an expression whose value is required.
func (c *checker) value(e *parse.Expr) *Node { return load(c.expr(e)) }

// load: the value of an expression that may be an lvalue. That of a struct is of no use: no rule takes it.
func load(n *Node) *Node {
	if !isPlace(n) {
		return n
	}
	v := &Node{Op: Load, At: n.At, Type: n.Type, Kids: []*Node{n}}
	switch n.Type.Kind {
	case api.Int:
		v.Type = withSecret(n.Type, n.Hid)
	case api.Ptr:
		v.Hid = n.Hid
	case api.Array:
		v.Op = AddrOf
		v.Type = ctype.PtrTo(*n.Type.Elem)
		v.Hid = n.Hid
	}
	return v
}

// name: what a name denotes.
func (c *checker) name(e *parse.Expr) *Node {
	if i, found := c.local(e.Text); found {
		return &Node{Op: Local, At: e.At, Type: c.fn.Locals[i].Type, Ref: i}
	}
	n, found := c.names[e.Text]
	if !found {
		return c.bad(api.ErrName, e.At)
	}
	n.At = e.At
	return &n
}

// pointed: the size of what a value points to; 0: it is no pointer, or to what has none.
func (c *checker) pointed(n *Node) int {
	if !isPtr(n.Type) {
		return 0
	}
	return c.prog.Table.Size(*n.Type.Elem)
}

// target: the place that a value points to.
func (c *checker) target(p *Node, at int) *Node {
	if c.pointed(p) == 0 {
		return c.bad(api.ErrType, at)
	}
	return &Node{Op: Deref, At: at, Type: *p.Type.Elem, Hid: p.Hid, Kids: []*Node{p}}
}

// index: an element, which stands where the sum of both parts points.
func (c *checker) index(e *parse.Expr) *Node {
	a := c.value(e.Kids[0])
	b := c.value(e.Kids[1])
	return c.target(c.binary("+", e.At, a, b), e.At)
}

// dot: a field of a place; arrow: one of what a value points to.
func (c *checker) dot(e *parse.Expr) *Node { return c.field(e, c.place(e.Kids[0])) }

func (c *checker) arrow(e *parse.Expr) *Node {
	return c.field(e, c.target(c.value(e.Kids[0]), e.At))
}

func (c *checker) field(e *parse.Expr, of *Node) *Node {
	if of.Type.Kind != api.Struct {
		return c.bad(api.ErrType, e.At)
	}
	for _, f := range c.fields[of.Type.Num] {
		if f.Name == e.Text {
			return &Node{Op: Field, At: e.At, Type: f.Type, Hid: of.Hid, Num: int64(f.At), Kids: []*Node{of}}
		}
	}
	return c.bad(api.ErrName, e.At)
}

// address: of a place; a function is its own.
func (c *checker) address(e *parse.Expr) *Node {
	n := c.expr(e.Kids[0])
	if n.Op == FuncVal {
		n.At = e.At
		return n
	}
	if !isPlace(n) {
		return c.bad(api.ErrPlace, e.Kids[0].At)
	}
	c.keepInMemory(n)
	return &Node{Op: AddrOf, At: e.At, Type: ctype.PtrTo(n.Type), Hid: n.Hid, Kids: []*Node{n}}
}

// keepInMemory: what has an address lies in memory. Fields needn't be followed: structs always do.
func (c *checker) keepInMemory(n *Node) {
	if n.Op == Local {
		c.fn.Locals[n.Ref].Memory = true
	}
}
