package parse

import (
	"merlon/api"
	"merlon/lex"
)

func (p *parser) unit() *Unit {
	u := &Unit{}
	for p.now().Kind != lex.End {
		if p.beginsStruct() {
			u.Structs = append(u.Structs, p.structDef())
			continue
		}
		p.globalOrFunction(u)
	}
	return u
}

// beginsStruct: whether a definition stands here; struct and a name may also be the type of a global or a result.
func (p *parser) beginsStruct() bool {
	return p.is("struct") && p.ahead(1).Kind == lex.Name && p.ahead(2).Text == "{"
}

func (p *parser) structDef() StructDef {
	p.need("struct")
	name := p.needKind(lex.Name)
	p.need("{")
	s := StructDef{Name: name.Text, At: name.At}
	for !p.take("}") {
		s.Fields = append(s.Fields, p.decl())
		p.need(";")
	}
	p.need(";")
	return s
}

// globalOrFunction adds what stands here to the unit. It is counted behind its end, so that its own faults come first.
func (p *parser) globalOrFunction(u *Unit) {
	d := p.decl()
	if p.is("(") && !d.Type.IsFn && len(d.Type.Dims) == 0 {
		u.Funcs = append(u.Funcs, p.function(d))
		p.atMost(api.MaxFuncs, len(u.Funcs), d.At)
		return
	}
	u.Globals = append(u.Globals, p.global(d))
	p.atMost(api.MaxGlobals, len(u.Globals), d.At)
}

// function: the one whose result and name are d.
func (p *parser) function(d Decl) FuncDef {
	f := FuncDef{Ret: d.Type, Name: d.Name, At: d.At}
	f.Params = list(p, p.decl)
	// Another token than { begins no statement: no limit of statements may come ahead of its fault.
	if !p.is("{") {
		p.fail(api.ErrParse)
	}
	f.Body = p.stmt()
	return f
}

// global: what follows its declaration d.
func (p *parser) global(d Decl) Global {
	g := Global{Decl: d}
	if p.take("=") {
		g.Init = p.init()
	}
	p.need(";")
	return g
}

func (p *parser) init() *Init {
	p.countNode()
	p.enter()
	defer p.leave()
	i := &Init{At: p.now().At}
	if !p.take("{") {
		i.E = p.choice()
		return i
	}
	i.IsL = true
	for !p.take("}") {
		i.List = append(i.List, p.init())
		// A part is followed by the end or by a comma, behind which there may be the end, too.
		if !p.is("}") {
			p.need(",")
		}
	}
	return i
}
