package check

import (
	"merlon/api"
	"merlon/ctype"
	"merlon/parse"
)

// open begins a scope; shut ends it.
func (c *checker) open() { c.scopes = append(c.scopes, map[string]int{}) }

func (c *checker) shut() { c.scopes = c.scopes[:len(c.scopes)-1] }

// local: the number of the innermost local of that name; false: none is visible.
func (c *checker) local(name string) (int, bool) {
	for i := len(c.scopes) - 1; i >= 0; i-- {
		if n, found := c.scopes[i][name]; found {
			return n, true
		}
	}
	return 0, false
}

// addLocal makes a local visible; its number.
func (c *checker) addLocal(d parse.Decl, t api.Type) int {
	scope := c.scopes[len(c.scopes)-1]
	if _, found := scope[d.Name]; found {
		c.fail(api.ErrTwice, d.At)
	}
	c.frame += ctype.Up(c.sizeOf(t, d.At), 8)
	if c.frame > api.MaxLocals {
		c.fail(api.ErrFrame, d.At)
	}
	n := len(c.fn.Locals)
	scope[d.Name] = n
	c.fn.Locals = append(c.fn.Locals, Var{Name: d.Name, Type: t, Memory: !isScalar(t)})
	return n
}
