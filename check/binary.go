package check

import (
	"merlon/api"
	"merlon/ctype"
)

// binary: an operator, but for && and ||, of two values.
func (c *checker) binary(op string, at int, a, b *Node) *Node {
	switch {
	case isComparison(op):
		return c.compare(op, at, a, b)
	case isInt(a.Type) && isInt(b.Type):
		t := resultType(op, a.Type, b.Type)
		return &Node{Op: Bin, At: at, Type: t, Text: op, Kids: []*Node{convert(a, t), operand(op, b, t)}}
	case op == "-" && isPtr(b.Type):
		return c.difference(at, a, b)
	case op == "+" && isInt(a.Type):
		return c.move(op, at, b, a, "late")
	case op == "+" || op == "-":
		return c.move(op, at, a, b, "")
	}
	return c.bad(api.ErrType, at)
}

func isComparison(op string) bool {
	switch op {
	case "==", "!=", "<", ">", "<=", ">=":
		return true
	}
	return false
}

func isShift(op string) bool { return op == "<<" || op == ">>" }

// resultType: the type in which an operator of two integers is reckoned.
func resultType(op string, a, b api.Type) api.Type {
	if isShift(op) {
		return withSecret(ctype.Promote(a), b.Secret)
	}
	return ctype.Common(a, b)
}

// operand: the second one of an operator that is reckoned in type t.
func operand(op string, b *Node, t api.Type) *Node {
	if isShift(op) {
		t = longType(false, b.Type.Secret)
	}
	return convert(b, t)
}

func (c *checker) compare(op string, at int, a, b *Node) *Node {
	if isInt(a.Type) && isInt(b.Type) {
		t := ctype.Common(a.Type, b.Type)
		return &Node{Op: Cmp, At: at, Type: intType(t.Secret), Text: op, Kids: []*Node{convert(a, t), convert(b, t)}}
	}
	p, q, ok := pointers(a, b)
	if !ok || !mayCompare(op, p, q) {
		return c.bad(api.ErrType, at)
	}
	return &Node{Op: PtrCmp, At: at, Type: intType(p.Hid || q.Hid), Text: op, Kids: []*Node{p, q}}
}

// mayCompare: whether there is a comparison of two pointers of one type.
func mayCompare(op string, p, q *Node) bool {
	if p.Op == NullValue || q.Op == NullValue {
		return op == "==" || op == "!="
	}
	return !pointsToFunc(p.Type)
}

// difference: how many elements lie between two pointers.
func (c *checker) difference(at int, p, q *Node) *Node {
	size := c.pointed(p)
	if size == 0 || !ctype.Same(p.Type, q.Type) {
		return c.bad(api.ErrType, at)
	}
	return &Node{Op: PtrDiff, At: at, Type: longType(true, p.Hid || q.Hid), Num: int64(size), Kids: []*Node{p, q}}
}

// move: a pointer that is moved by a number of elements; when says which of the two is reckoned first.
func (c *checker) move(op string, at int, p, n *Node, when string) *Node {
	size := c.pointed(p)
	if size == 0 || !isInt(n.Type) {
		return c.bad(api.ErrType, at)
	}
	return &Node{
		Op: PtrAdd, At: at, Type: p.Type, Hid: p.Hid || isSecret(n), Text: when,
		Num: stride(op, size), Kids: []*Node{p, distance(n)},
	}
}

// distance: by how many elements a pointer is moved.
func distance(n *Node) *Node { return convert(n, longType(true, n.Type.Secret)) }

// stride: by how many bytes + or - moves a pointer, for each element.
func stride(op string, size int) int64 {
	if op == "-" {
		return -int64(size)
	}
	return int64(size)
}
