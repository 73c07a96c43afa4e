package parse

import (
	"reflect"
	"strings"
	"testing"

	"merlon/api"
	"merlon/lex"
)

// A mixer makes the tests' numbers: always the same ones.
type mixer uint64

func (m *mixer) below(n int) int {
	*m = *m*6364136223846793005 + 1442695040888963407
	return int(uint64(*m) >> 33 % uint64(n))
}

func (m *mixer) one(of ...string) string { return of[m.below(len(of))] }

// A maker makes up sources by the chapter's grammar, with the trees that they must have. Where a tree has an offset, the maker's has a token's index. It has no limits, but notes where one is exceeded first.
type maker struct {
	mixer
	texts []string // of the tokens
	nodes int
	depth int
	fault api.Fault // of the first limit; its At is a token's index
}

// at is the index of the token that comes next.
func (k *maker) at() int { return len(k.texts) }

func (k *maker) put(texts ...string) int {
	k.texts = append(k.texts, texts...)
	return len(k.texts) - 1
}

func (k *maker) exceeded(kind api.Errno) {
	if k.fault.Kind == api.OK {
		k.fault = api.Fault{Kind: kind, At: k.at()}
	}
}

func (k *maker) count() {
	k.nodes++
	if k.nodes > 6000 {
		k.exceeded(api.ErrSize)
	}
}

// down is one level deeper; the function that it answers comes back.
func (k *maker) down() func() {
	k.depth++
	if k.depth > 60 {
		k.exceeded(api.ErrDepth)
	}
	return func() { k.depth-- }
}

func (k *maker) expr(e Expr, kids ...*Expr) *Expr {
	k.count()
	e.Kids = kids
	return &e
}

// full makes an expression; the smaller n, the smaller it is.
func (k *maker) full(n int) *Expr {
	defer k.down()()
	e := k.choice(n)
	if n <= 0 || k.below(6) > 0 {
		return e
	}
	op := k.one("", "+", "-", "*", "/", "%", "&", "|", "^", "<<", ">>")
	at := k.put(op + "=")
	return k.expr(Expr{Op: Assign, At: at, Text: op}, e, k.full(n-1))
}

func (k *maker) choice(n int) *Expr {
	e := k.binary(n, levels())
	if n <= 0 || k.below(6) > 0 {
		return e
	}
	at := k.put("?")
	yes := k.full(n - 1)
	k.put(":")
	defer k.down()()
	no := k.choice(n - 1)
	return k.expr(Expr{Op: Cond, At: at}, e, yes, no)
}

func (k *maker) binary(n int, levels [][]string) *Expr {
	if len(levels) == 0 {
		return k.unary(n)
	}
	e := k.binary(n, levels[1:])
	for n > 0 && k.below(16) == 0 {
		op := k.one(levels[0]...)
		x := Expr{Op: Bin, At: k.put(op), Text: op}
		switch op {
		case "&&":
			x.Op, x.Text = And, ""
		case "||":
			x.Op, x.Text = Or, ""
		}
		e = k.expr(x, e, k.binary(n-1, levels[1:]))
	}
	return e
}

func (k *maker) unary(n int) *Expr {
	defer k.down()()
	if n <= 0 {
		return k.leaf()
	}
	switch k.below(6) {
	case 0:
		op := k.one("-", "~", "!", "*", "&")
		return k.expr(Expr{Op: Unary, At: k.put(op), Text: op}, k.unary(n-1))
	case 1:
		op := k.one("++", "--")
		return k.expr(Expr{Op: Pre, At: k.put(op), Text: op}, k.unary(n-1))
	case 2:
		if k.below(2) == 0 {
			e := Expr{Op: Sizeof, At: k.put("sizeof")}
			k.put("(")
			e.Type = k.starred()
			k.put(")")
			return k.expr(e)
		}
		e := Expr{Op: Cast, At: k.put("(")}
		e.Type = k.starred()
		k.put(")")
		return k.expr(e, k.unary(n-1))
	}
	return k.postfix(n)
}

func (k *maker) leaf() *Expr {
	if k.below(2) == 0 {
		name := k.name()
		return k.expr(Expr{Op: Var, At: k.put(name), Text: name})
	}
	text := k.one("0", "7", "12u", "0x1Fl", "9ul", "'a'", "'\\n'", "18446744073709551615")
	l, _ := lex.Scan(text)
	l[0].At = k.put(text)
	return k.expr(Expr{Op: Num, At: l[0].At, Tok: l[0]})
}

func (k *maker) postfix(n int) *Expr {
	var e *Expr
	if k.below(4) > 0 {
		e = k.leaf()
	} else {
		k.put("(")
		e = k.full(n - 1)
		k.put(")")
	}
	for k.below(2) == 0 {
		e = k.follow(n, e)
	}
	return e
}

func (k *maker) follow(n int, e *Expr) *Expr {
	switch k.below(5) {
	case 0:
		at := k.put("[")
		index := k.full(n - 1)
		k.put("]")
		return k.expr(Expr{Op: Index, At: at}, e, index)
	case 1:
		x := Expr{Op: Dot, At: k.put("."), Text: k.name()}
		k.put(x.Text)
		return k.expr(x, e)
	case 2:
		x := Expr{Op: Arrow, At: k.put("->"), Text: k.name()}
		k.put(x.Text)
		return k.expr(x, e)
	case 3:
		op := k.one("++", "--")
		return k.expr(Expr{Op: Post, At: k.put(op), Text: op}, e)
	}
	at := k.put("(")
	kids := []*Expr{e}
	for i := range k.below(4) {
		if i > 0 {
			k.put(",")
		}
		kids = append(kids, k.full(n-1))
	}
	k.put(")")
	return k.expr(Expr{Op: Call, At: at}, kids...)
}

func (k *maker) name() string { return k.one("a", "b", "c1", "_x", "main", "out") }

func (k *maker) starred() TypeExpr {
	x := TypeExpr{Spec: k.spec()}
	for range k.below(4) / 2 {
		k.put("*")
		x.Stars++
	}
	return x
}

func (k *maker) spec() Spec {
	s := Spec{At: k.at()}
	switch k.below(4) {
	case 0:
		k.put("secret")
		s.Secret = true
	case 1:
		k.put("public")
	}
	switch k.below(6) {
	case 0:
		s.Word, s.Struct = "struct", k.name()
		k.put("struct", s.Struct)
	case 1:
		s.Word = "void"
		k.put("void")
	case 2:
		s.Word = "int"
		s.Unsigned = k.sign(1 + k.below(2))
	default:
		s.Unsigned = k.sign(k.below(3))
		s.Word = k.one("char", "short", "int", "long")
		k.put(s.Word)
	}
	return s
}

// sign puts unsigned, signed, or nothing.
func (k *maker) sign(n int) bool {
	if n > 0 {
		k.put([]string{"unsigned", "signed"}[n-1])
	}
	return n == 1
}

func (k *maker) decl() Decl {
	d := Decl{Type: k.starred()}
	d.Type.IsFn = k.below(5) == 0
	if d.Type.IsFn {
		k.put("(", "*")
	}
	d.Name = k.name()
	d.At = k.put(d.Name)
	for range k.below(8) / 3 {
		i := k.below(3)
		k.put("[", []string{"1", "'a'", "0x1000ul"}[i], "]")
		d.Type.Dims = append(d.Type.Dims, []int{1, 97, 4096}[i])
	}
	if d.Type.IsFn {
		k.put(")", "(")
		from := k.at()
		for i := range k.below(4) {
			if i > 0 {
				k.put(",")
			}
			d.Type.Fn = append(d.Type.Fn, k.starred())
		}
		// One void alone means that there are none.
		if k.at() == from+1 && k.texts[from] == "void" {
			d.Type.Fn = nil
		}
		k.put(")")
	}
	return d
}

func (k *maker) stmt(n int) *Stmt {
	s := &Stmt{At: k.at()}
	k.count()
	defer k.down()()
	switch k.below(13) {
	case 0:
		s.Kind = Empty
		k.put(";")
	case 1, 2:
		k.block(n, s)
	case 3:
		k.branch(n, s)
	case 4:
		s.Kind = While
		k.put("while", "(")
		s.E = k.full(n - 1)
		k.put(")")
		s.Kids = []*Stmt{k.small(n)}
	case 5:
		s.Kind = Until
		k.put("do")
		s.Kids = []*Stmt{k.small(n)}
		k.put("while", "(")
		s.E = k.full(n - 1)
		k.put(")", ";")
	case 6:
		k.loop(n, s)
	case 7:
		k.choose(n, s)
	case 8:
		s.Kind = Break
		k.put("break", ";")
	case 9:
		s.Kind = Continue
		k.put("continue", ";")
	case 10:
		s.Kind = Return
		k.put("return")
		s.E = k.perhaps(n)
		k.put(";")
	default:
		k.simple(n, s)
		k.put(";")
	}
	return s
}

// small is a statement in another one.
func (k *maker) small(n int) *Stmt {
	if n > 0 {
		return k.stmt(n - 1)
	}
	defer k.down()()
	k.count()
	return &Stmt{Kind: Empty, At: k.put(";")}
}

func (k *maker) perhaps(n int) *Expr {
	if k.below(2) == 0 {
		return nil
	}
	return k.full(n)
}

func (k *maker) simple(n int, s *Stmt) {
	if k.below(3) > 0 {
		s.Kind, s.E = Do, k.full(n)
		return
	}
	s.Kind, s.Decl = Let, k.decl()
	if k.below(2) == 0 {
		k.put("=")
		s.E = k.full(n)
	}
}

func (k *maker) block(n int, s *Stmt) {
	s.Kind = Block
	k.put("{")
	for range k.below(4) {
		s.Kids = append(s.Kids, k.small(n))
	}
	k.put("}")
}

// open: whether an else behind a statement belongs to something in it.
func open(s *Stmt) bool {
	switch s.Kind {
	case If:
		return len(s.Kids) == 1 || open(s.Kids[1])
	case While:
		return open(s.Kids[0])
	case For:
		return open(s.Kids[1])
	}
	return false
}

func (k *maker) branch(n int, s *Stmt) {
	s.Kind = If
	k.put("if", "(")
	s.E = k.full(n - 1)
	k.put(")")
	s.Kids = []*Stmt{k.small(n)}
	if !open(s.Kids[0]) && k.below(2) == 0 {
		k.put("else")
		s.Kids = append(s.Kids, k.small(n))
	}
}

func (k *maker) loop(n int, s *Stmt) {
	s.Kind = For
	k.put("for", "(")
	first := &Stmt{Kind: Empty, At: k.at()}
	k.count()
	if k.below(2) == 0 {
		k.simple(n-1, first)
	}
	k.put(";")
	s.E = k.perhaps(n - 1)
	k.put(";")
	s.Step = k.perhaps(n - 1)
	k.put(")")
	s.Kids = []*Stmt{first, k.small(n)}
}

func (k *maker) choose(n int, s *Stmt) {
	s.Kind = Switch
	k.put("switch", "(")
	s.E = k.full(n - 1)
	k.put(")", "{")
	groups := k.below(4)
	for i := range groups {
		c := Case{At: k.at()}
		for len(c.Values) == 0 && !c.Default || k.below(3) == 0 {
			if !c.Default && k.below(3) == 0 {
				c.Default = true
				k.put("default", ":")
				continue
			}
			k.put("case")
			c.Values = append(c.Values, k.choice(n-1))
			k.put(":")
		}
		// Without a statement, the labels of the next group would belong to this one.
		for len(c.Body) == 0 && i < groups-1 || k.below(2) == 0 {
			c.Body = append(c.Body, k.small(n))
		}
		s.Cases = append(s.Cases, c)
	}
	k.put("}")
}

func (k *maker) init(n int) *Init {
	i := &Init{At: k.at()}
	k.count()
	defer k.down()()
	if n <= 0 || k.below(2) == 0 {
		i.E = k.choice(n)
		return i
	}
	i.IsL = true
	k.put("{")
	for range k.below(5) {
		i.List = append(i.List, k.init(n-1))
		k.put(",")
	}
	if len(i.List) > 0 && k.below(2) == 0 {
		k.texts = k.texts[:len(k.texts)-1]
	}
	k.put("}")
	return i
}

func (k *maker) structDef() StructDef {
	k.put("struct")
	s := StructDef{Name: k.name()}
	s.At = k.put(s.Name)
	k.put("{")
	for range k.below(4) {
		s.Fields = append(s.Fields, k.decl())
		k.put(";")
	}
	k.put("}", ";")
	return s
}

func (k *maker) global(n int) Global {
	g := Global{Decl: k.decl()}
	if k.below(2) == 0 {
		k.put("=")
		g.Init = k.init(n)
	}
	k.put(";")
	return g
}

// function makes one whose statements are in that many blocks.
func (k *maker) function(n, blocks int) FuncDef {
	f := FuncDef{Ret: k.starred(), Name: k.name()}
	f.At = k.put(f.Name)
	k.put("(")
	for i := range k.below(4) {
		if i > 0 {
			k.put(",")
		}
		f.Params = append(f.Params, k.decl())
	}
	if len(f.Params) == 0 && k.below(2) == 0 {
		k.put("void")
	}
	k.put(")")
	f.Body = k.blocks(n, blocks)
	return f
}

func (k *maker) blocks(n, blocks int) *Stmt {
	s := &Stmt{At: k.at()}
	k.count()
	defer k.down()()
	if blocks <= 1 {
		k.block(n, s)
		return s
	}
	s.Kind = Block
	k.put("{")
	s.Kids = []*Stmt{k.blocks(n, blocks-1)}
	k.put("}")
	return s
}

func (k *maker) unit(n, blocks int) *Unit {
	u := &Unit{}
	for range 1 + k.below(4) {
		switch k.below(4) {
		case 0:
			u.Structs = append(u.Structs, k.structDef())
		case 1:
			u.Globals = append(u.Globals, k.global(n))
		default:
			u.Funcs = append(u.Funcs, k.function(n, blocks))
		}
	}
	return u
}

// apart: whether two tokens need a blank between them.
func apart(a, b string) bool {
	l, f := lex.Scan(a + b)
	return f.Kind != api.OK || len(l) != 3 || l[0].Text != a
}

// laid is a source that has the tokens, with blanks only where they are needed (0), or with mixed ones (other seeds), and the tokens' offsets, with that of the end.
func laid(texts []string, seed int) (string, map[int]int) {
	m := mixer(seed)
	var b strings.Builder
	index := map[int]int{}
	for i, x := range texts {
		switch {
		case seed > 0:
			b.WriteString(m.one(" ", "\n", "\t", "\r\n", " /**/", "  ", " //;}\n", " /* int x; */ "))
		case i > 0 && apart(texts[i-1], x):
			b.WriteString(" ")
		}
		index[b.Len()] = i
		b.WriteString(x)
	}
	index[b.Len()] = len(texts)
	return b.String(), index
}

// indexed puts the tokens' indices in the place of all offsets in a value.
func indexed(v reflect.Value, index map[int]int) {
	switch v.Kind() {
	case reflect.Pointer:
		if !v.IsNil() {
			indexed(v.Elem(), index)
		}
	case reflect.Slice:
		for i := range v.Len() {
			indexed(v.Index(i), index)
		}
	case reflect.Struct:
		for i := range v.NumField() {
			if v.Type().Field(i).Name == "At" {
				v.Field(i).SetInt(int64(index[int(v.Field(i).Int())]))
			} else {
				indexed(v.Field(i), index)
			}
		}
	}
}

// parsedIndexed parses tokens, laid in that way; the offsets in the answer are tokens' indices.
func parsedIndexed(texts []string, seed int) (*Unit, api.Fault, string) {
	s, index := laid(texts, seed)
	// What has no offset has a 0, and so has the first token's index.
	index[0] = 0
	u, f := Parse(s)
	if f.Kind != api.OK {
		f.At = index[f.At]
	}
	indexed(reflect.ValueOf(u), index)
	return u, f, s
}

// pad puts a function that has n nodes.
func (k *maker) pad(n int) FuncDef {
	f := FuncDef{Ret: TypeExpr{Spec: Spec{Word: "int", At: k.put("int")}}, Name: "z"}
	f.At = k.put("z")
	k.put("(", ")")
	f.Body = &Stmt{Kind: Block, At: k.at()}
	k.count()
	k.put("{")
	for range n - 1 {
		k.count()
		f.Body.Kids = append(f.Body.Kids, &Stmt{Kind: Empty, At: k.put(";")})
	}
	k.put("}")
	return f
}

// hold checks what Parse makes of a maker's source, whatever blanks it has (P3.2).
func (k *maker) hold(t *testing.T, want *Unit) {
	t.Helper()
	if k.fault.Kind != api.OK {
		want = nil
	}
	for seed := range 3 {
		u, f, s := parsedIndexed(k.texts, seed)
		if f != k.fault {
			// Blanks may make a source too long.
			if f.Kind == api.ErrSize && len(s) > api.MaxSource {
				continue
			}
			t.Fatalf("Parse(%q): fault %d at token %d, want %d at %d", s, int(f.Kind), f.At, int(k.fault.Kind), k.fault.At)
		}
		if !reflect.DeepEqual(u, want) {
			t.Fatalf("Parse(%q)\n%s\nwant\n%s", s, showUnit(u), showUnit(want))
		}
	}
}

func TestMadeSources(t *testing.T) {
	for i := range 600 {
		k := &maker{mixer: mixer(i)}
		k.hold(t, k.unit(1+i%6, 1))
	}
}

// TestMadeSourcesAtLimits has sources that nest deep, or have many nodes, or both.
func TestMadeSourcesAtLimits(t *testing.T) {
	ends := map[api.Errno]int{}
	for i := range 150 {
		k := &maker{mixer: mixer(i)}
		pad, blocks := 1, 1
		if i%3 > 0 {
			blocks = 48 + k.below(14)
		}
		if i%3 < 2 {
			pad = 5700 + k.below(301)
		}
		f := k.pad(pad)
		u := k.unit(4, blocks)
		u.Funcs = append([]FuncDef{f}, u.Funcs...)
		k.hold(t, u)
		ends[k.fault.Kind]++
	}
	for _, e := range []api.Errno{api.OK, api.ErrSize, api.ErrDepth} {
		if ends[e] < 15 {
			t.Errorf("only %d sources ended with %d", ends[e], int(e))
		}
	}
}

// changed is a list of tokens with one taken out, put in, put in another's place, or moved.
func (m *mixer) changed(texts []string, words []string) []string {
	l := append([]string{}, texts...)
	i := m.below(len(l))
	switch m.below(4) {
	case 0:
		return append(l[:i], l[i+1:]...)
	case 1:
		l[i] = m.one(words...)
		return l
	case 2:
		j := m.below(len(l))
		l[i], l[j] = l[j], l[i]
		return l
	}
	return append(l[:i], append([]string{m.one(words...)}, texts[i:]...)...)
}

// firstWrong is the index of the first token with which no unit goes on, that of the end among them; -1: all of them are a unit.
func (g *grammar) firstWrong(texts []string) int {
	c := g.chart()
	for i, x := range texts {
		l, _ := lex.Scan(x)
		if !c.follow(termOf(l[0])) {
			return i
		}
	}
	if c.whole() {
		return -1
	}
	return len(texts)
}

// TestChangedSources holds sources that have been spoilt against the grammar, whatever blanks they have.
func TestChangedSources(t *testing.T) {
	g := newGrammar()
	words := g.vocabulary()
	for i, w := range words {
		words[i] = spelt(w)
	}
	ends := map[api.Errno]int{}
	for i := range 1500 {
		k := &maker{mixer: mixer(i)}
		k.unit(i%4, 1)
		texts := k.changed(k.texts, words)
		want := api.Fault{}
		if n := g.firstWrong(texts); n >= 0 {
			want = api.Fault{Kind: api.ErrParse, At: n}
		}
		for seed := range 2 {
			_, f, s := parsedIndexed(texts, seed)
			ends[f.Kind]++
			// The grammar doesn't know of these limits; they are met ahead of what is wrong.
			limit := f.Kind == api.ErrCount || f.Kind == api.ErrJump || f.Kind == api.ErrConst
			if limit && (want.Kind == api.OK || f.At <= want.At) {
				continue
			}
			if f != want {
				t.Fatalf("Parse(%q): fault %d at token %d, want %d at %d", s, int(f.Kind), f.At, int(want.Kind), want.At)
			}
		}
	}
	if ends[api.OK] < 100 || ends[api.ErrParse] < 1000 || ends[api.ErrCount]+ends[api.ErrJump]+ends[api.ErrConst] > 100 {
		t.Error(ends)
	}
}

// TestMixedTokens has tokens without any order, and bytes: Parse ends, with a unit or with a fault.
func TestMixedTokens(t *testing.T) {
	m := mixer(1)
	words := newGrammar().vocabulary()
	for range 20000 {
		var b strings.Builder
		b.WriteString(m.one("", "int f(){", "int x=", "struct s{"))
		for range m.below(12) {
			b.WriteString(m.one("", " ") + spelt(m.one(words...)))
			if m.below(40) == 0 {
				b.WriteByte(byte(m.below(256)))
			}
		}
		s := b.String()
		u, f := Parse(s)
		if (u == nil) != (f.Kind != api.OK) || f.At < 0 || f.At > len(s) || f.Kind == api.OK && f.At != 0 {
			t.Fatalf("Parse(%q) = %v, %v", s, u, f)
		}
	}
}
