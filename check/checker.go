package check

import (
	"merlon/api"
	"merlon/ctype"
	"merlon/parse"
)

// outName is the name of what writes a number: no global and no function may have it.
const outName = "out"

// A checker goes through a unit in the order of checking and makes its program.
type checker struct {
	faults
	unit    *parse.Unit
	prog    *Prog
	numbers map[string]int   // of structs, by their names
	fields  [][]ctype.Field  // of each struct that was laid out
	names   map[string]Node  // what the names of globals and functions denote, but for its At
	fn      *Fn              // whose body is being checked
	frame   int              // bytes of its locals so far
	scopes  []map[string]int // the locals that are visible, the innermost scope last
	loops   int              // how many the statement at hand stands within
	cases   int              // how many switches it stands within
}

func newChecker(unit *parse.Unit) *checker {
	return &checker{
		unit:    unit,
		prog:    &Prog{Table: &ctype.Table{}},
		numbers: map[string]int{},
		names:   map[string]Node{},
	}
}

// structs lays out all structs. Their numbers come first, because a type may name a struct that is defined behind it.
func (c *checker) structs() {
	if len(c.unit.Structs) > api.MaxStructs {
		c.fail(api.ErrCount, c.unit.Structs[api.MaxStructs].At)
		return
	}
	for i, d := range c.unit.Structs {
		if _, found := c.numbers[d.Name]; !found {
			c.numbers[d.Name] = i
		}
	}
	for _, d := range c.unit.Structs {
		c.structDef(d)
	}
}

func (c *checker) structDef(d parse.StructDef) {
	var fields []ctype.Field
	for _, f := range d.Fields {
		fields = append(fields, ctype.Field{Name: f.Name, Type: c.typeOf(f.Type)})
	}
	n, err := c.prog.Table.Add(d.Name, fields)
	if err != api.OK {
		c.fail(err, d.At)
		return
	}
	c.fields = append(c.fields, c.prog.Table.Fields(n))
}

// globals places all globals. Their initial values come later: these may name what stands behind them.
func (c *checker) globals() {
	for i, g := range c.unit.Globals {
		d := g.Decl
		t := c.typeOf(d.Type)
		c.claim(d.Name, d.At)
		c.names[d.Name] = Node{Op: Global, Type: t, Ref: i}
		size := c.sizeOf(t, d.At)
		at := ctype.Up(c.prog.Data, 8)
		if size > api.MaxData-at {
			c.fail(api.ErrFrame, d.At)
		}
		if c.failed() {
			return
		}
		c.prog.Globals = append(c.prog.Globals, Var{Name: d.Name, Type: t, At: at, Data: make([]byte, size), Init: g.Init != nil})
		c.prog.Data = at + size
	}
}

// sizeOf: the size of a variable's type; there must be one.
func (c *checker) sizeOf(t api.Type, at int) int {
	size := c.prog.Table.Size(t)
	if size == 0 {
		c.fail(api.ErrType, at)
	}
	return size
}

// claim: no other global or function may have that name.
func (c *checker) claim(name string, at int) {
	if _, found := c.names[name]; found || name == outName {
		c.fail(api.ErrTwice, at)
	}
}

// functions finds out the types of all functions.
func (c *checker) functions() {
	for i, d := range c.unit.Funcs {
		ret := c.typeOf(d.Ret)
		if !isResult(ret) {
			c.fail(api.ErrType, d.At)
		}
		c.claim(d.Name, d.At)
		t := api.Type{Kind: api.Func, Params: c.params(d.Params), Ret: &ret}
		if d.Name == "main" {
			c.prog.Main = i
			if len(d.Params) > 0 || !isInt(ret) || ret.Secret {
				c.fail(api.ErrMain, d.At)
			}
		}
		c.names[d.Name] = Node{Op: FuncVal, Type: ctype.PtrTo(t), Ref: i}
		c.prog.Funcs = append(c.prog.Funcs, Fn{Name: d.Name, Type: t, At: d.At, Params: len(d.Params)})
	}
}

// params: the types of a function's parameters.
func (c *checker) params(decls []parse.Decl) []api.Type {
	var types []api.Type
	for _, d := range decls {
		t := c.typeOf(d.Type)
		if !isScalar(t) {
			c.fail(api.ErrType, d.At)
		}
		types = append(types, t)
	}
	return types
}

func (c *checker) needMain() {
	if c.names["main"].Op != FuncVal {
		c.fail(api.ErrMain, 0)
	}
}

func (c *checker) bodies() {
	for i, d := range c.unit.Funcs {
		c.fn = &c.prog.Funcs[i]
		c.frame = 0
		c.open()
		for k, p := range d.Params {
			c.addLocal(p, c.fn.Type.Params[k])
		}
		c.fn.Body = c.stmt(d.Body)
		c.shut()
	}
}
