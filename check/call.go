package check

import (
	"merlon/api"
	"merlon/ctype"
	"merlon/parse"
)

func (c *checker) call(e *parse.Expr) *Node {
	if c.isOut(e.Kids[0]) {
		return c.out(e)
	}
	f := c.value(e.Kids[0])
	switch {
	case !pointsToFunc(f.Type):
		return c.bad(api.ErrType, e.At)
	case f.Hid:
		return c.bad(api.ErrFlow, e.At)
	}
	t := *f.Type.Elem
	given := e.Kids[1:]
	if len(given) != len(t.Params) {
		return c.bad(api.ErrCall, e.At)
	}
	n := &Node{Op: CallFunc, At: e.At, Type: *t.Ret, Ref: f.Ref}
	if f.Op != FuncVal {
		n = &Node{Op: CallPtr, At: e.At, Type: *t.Ret, Kids: []*Node{f}}
	}
	for i, a := range given {
		n.Kids = append(n.Kids, c.give(c.value(a), t.Params[i], a.At))
	}
	return n
}

// isOut: whether that is what writes a number. No global and no function is named so, but a local may be.
func (c *checker) isOut(e *parse.Expr) bool {
	if e.Op != parse.Var || e.Text != outName {
		return false
	}
	_, found := c.local(outName)
	return !found
}

func (c *checker) out(e *parse.Expr) *Node {
	given := e.Kids[1:]
	if len(given) != 1 {
		return c.bad(api.ErrCall, e.At)
	}
	n := c.integer(given[0])
	if isSecret(n) {
		return c.bad(api.ErrFlow, given[0].At)
	}
	return &Node{Op: Out, At: e.At, Type: ctype.VoidType(), Kids: []*Node{n}}
}
