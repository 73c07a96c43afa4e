package check

import (
	"merlon/api"
	"merlon/arith"
	"merlon/ctype"
	"merlon/parse"
)

// initials: the initial values of all globals.
func (c *checker) initials() {
	for i, g := range c.unit.Globals {
		if g.Init != nil {
			v := &c.prog.Globals[i]
			c.initial(v, 0, v.Type, g.Init)
		}
	}
}

// initial: what stands in v from that byte on, of type t.
func (c *checker) initial(v *Var, at int, t api.Type, i *parse.Init) {
	switch {
	case i.IsL && t.Kind == api.Array:
		c.elements(v, at, t, i.List)
	case i.IsL && t.Kind == api.Struct:
		c.initialFields(v, at, t, i.List)
	case i.IsL:
		c.fail(api.ErrType, i.At)
	default:
		c.single(v, at, t, i)
	}
}

func (c *checker) elements(v *Var, at int, t api.Type, list []*parse.Init) {
	size := c.prog.Table.Size(*t.Elem)
	for k, part := range list {
		if k >= t.Len {
			c.fail(api.ErrCount, part.At)
			return
		}
		c.initial(v, at+k*size, *t.Elem, part)
	}
}

func (c *checker) initialFields(v *Var, at int, t api.Type, list []*parse.Init) {
	fields := c.fields[t.Num]
	for k, part := range list {
		if k >= len(fields) {
			c.fail(api.ErrCount, part.At)
			return
		}
		c.initial(v, at+fields[k].At, fields[k].Type, part)
	}
}

// single: what is no list.
func (c *checker) single(v *Var, at int, t api.Type, i *parse.Init) {
	n := c.value(i.E)
	switch {
	case isInt(t) && isInt(n.Type):
		num, known := Value(n)
		if !known {
			c.fail(api.ErrConst, i.At)
			return
		}
		put(v.Data[at:at+t.Size], arith.Fit(t, num))
	case isPtr(t) && isZero(n):
	case n.Op == FuncVal && ctype.Same(n.Type, t):
		v.Funcs = append(v.Funcs, FuncAt{At: at, Func: n.Ref})
	default:
		c.fail(api.ErrType, i.At)
	}
}

// put: a number's bytes, the lowest first.
func put(to []byte, n int64) {
	for i := range to {
		to[i] = byte(n >> (8 * i))
	}
}
