package parse

import (
	"reflect"
	"regexp"
	"strconv"
	"strings"
	"testing"

	"merlon/api"
	"merlon/lex"
)

// parsed parses a source that must have no fault.
func parsed(t *testing.T, s string) *Unit {
	t.Helper()
	u, f := Parse(s)
	if f != (api.Fault{}) || u == nil {
		t.Fatalf("Parse(%q): fault %d at %d", short(s), int(f.Kind), f.At)
	}
	return u
}

// fails checks that a source has a fault where its mark @ stands, and nothing else. The mark isn't part of the source.
func fails(t *testing.T, marked string, kind api.Errno) {
	t.Helper()
	at := strings.Index(marked, "@")
	if at < 0 {
		t.Fatalf("%q has no mark", short(marked))
	}
	failsAt(t, marked[:at]+marked[at+1:], kind, at)
}

func failsAt(t *testing.T, s string, kind api.Errno, at int) {
	t.Helper()
	if u, f := Parse(s); f != (api.Fault{Kind: kind, At: at}) || u != nil {
		t.Errorf("Parse(%q) = %v, fault %d at %d, want %d at %d", short(s), u, int(f.Kind), f.At, int(kind), at)
	}
}

func short(s string) string {
	if len(s) > 200 {
		return s[:90] + " .. " + s[len(s)-90:]
	}
	return s
}

// inFunction is a source with those statements in a function.
func inFunction(statements string) string { return "int f(){" + statements + "}" }

// body parses statements in a function.
func body(t *testing.T, statements string) []*Stmt {
	t.Helper()
	u := parsed(t, inFunction(statements))
	if len(u.Funcs) != 1 {
		t.Fatalf("%q: %d functions", statements, len(u.Funcs))
	}
	return u.Funcs[0].Body.Kids
}

// expression parses an expression that stands alone, with offsets from its beginning.
func expression(t *testing.T, s string) string {
	t.Helper()
	b := body(t, s+";")
	if len(b) != 1 || b[0].Kind != Do {
		t.Fatalf("%q is no expression", s)
	}
	return showExpr(b[0].E, len("int f(){"))
}

// plain is a tree's text without offsets.
func plain(s string) string { return regexp.MustCompile(`@\d+`).ReplaceAllString(s, "") }

// showExpr is an expression's tree with its offsets, reckoned from one of them.
func showExpr(e *Expr, from int) string {
	if e == nil {
		return "none"
	}
	at := "@" + strconv.Itoa(e.At-from)
	head := map[int]string{Call: "call", Index: "index", Dot: "." + e.Text, Arrow: "->" + e.Text, Unary: "unary" + e.Text, Pre: "pre" + e.Text, Post: "post" + e.Text,
		Sizeof: "sizeof " + showType(e.Type), Cast: "cast " + showType(e.Type), Bin: e.Text, And: "and" + e.Text, Or: "or" + e.Text, Cond: "cond" + e.Text, Assign: e.Text + "="}[e.Op]
	switch e.Op {
	case Num:
		return e.Text + e.Tok.Text + at
	case Var:
		return e.Text + at
	}
	parts := []string{head + at}
	for _, k := range e.Kids {
		parts = append(parts, showExpr(k, from))
	}
	return "(" + strings.Join(parts, " ") + ")"
}

func showType(x TypeExpr) string {
	s := x.Spec.Word
	if x.Spec.Struct != "" {
		s += " " + x.Spec.Struct
	}
	if x.Spec.Unsigned {
		s = "unsigned " + s
	}
	if x.Spec.Secret {
		s = "secret " + s
	}
	s += strings.Repeat("*", x.Stars)
	for _, n := range x.Dims {
		s += "[" + strconv.Itoa(n) + "]"
	}
	if x.IsFn {
		l := []string{}
		for _, p := range x.Fn {
			l = append(l, showType(p))
		}
		s += "(*)(" + strings.Join(l, ",") + ")"
	}
	return s
}

func showStmts(l []*Stmt) string {
	parts := []string{}
	for _, s := range l {
		parts = append(parts, showStmt(s))
	}
	return "[" + strings.Join(parts, " ") + "]"
}

func showStmt(s *Stmt) string {
	name := map[int]string{Do: "do", Let: "let", Block: "block", If: "if", While: "while", Until: "until", For: "for", Switch: "switch", Break: "break", Continue: "continue", Return: "return", Empty: "empty"}[s.Kind]
	out := name + "@" + strconv.Itoa(s.At)
	if s.Kind == Let {
		out += " " + s.Decl.Name + "@" + strconv.Itoa(s.Decl.At) + ":" + showType(s.Decl.Type)
	}
	if s.E != nil {
		out += " " + showExpr(s.E, 0)
	}
	if s.Step != nil {
		out += " step " + showExpr(s.Step, 0)
	}
	if len(s.Kids) > 0 {
		out += " " + showStmts(s.Kids)
	}
	for _, c := range s.Cases {
		out += " case@" + strconv.Itoa(c.At)
		for _, v := range c.Values {
			out += " " + showExpr(v, 0)
		}
		if c.Default {
			out += " default"
		}
		out += " " + showStmts(c.Body)
	}
	return "{" + out + "}"
}

func showInit(i *Init) string {
	if i == nil {
		return "none"
	}
	at := "@" + strconv.Itoa(i.At)
	if !i.IsL {
		return showExpr(i.E, 0) + at
	}
	l := []string{}
	for _, k := range i.List {
		l = append(l, showInit(k))
	}
	return "{" + strings.Join(l, " ") + "}" + at
}

func TestKinds(t *testing.T) {
	for i, n := range []int{Num, Var, Call, Index, Dot, Arrow, Unary, Pre, Post, Sizeof, Cast, Bin, And, Or, Cond, Assign} {
		if n != i+1 {
			t.Errorf("kind %d of expressions is %d", i+1, n)
		}
	}
	for i, n := range []int{Do, Let, Block, If, While, Until, For, Switch, Break, Continue, Return, Empty} {
		if n != i+1 {
			t.Errorf("kind %d of statements is %d", i+1, n)
		}
	}
}

// TestExample has the chapter's example, in all its fields.
func TestExample(t *testing.T) {
	one := &Expr{Op: Num, At: 20, Tok: lex.Token{Kind: lex.Number, Text: "1", At: 20, Value: 1}}
	want := &Unit{Funcs: []FuncDef{{
		Ret:  TypeExpr{Spec: Spec{Word: "int"}},
		Name: "main", At: 4,
		Body: &Stmt{Kind: Block, At: 11, Kids: []*Stmt{{Kind: Return, At: 13, E: one}}},
	}}}
	if u := parsed(t, "int main() { return 1; }"); !reflect.DeepEqual(u, want) {
		t.Errorf("%+v", u)
	}
}

func TestEmptyUnit(t *testing.T) {
	for _, s := range []string{"", " \t\r\n", "// c", "/* c */"} {
		if u := parsed(t, s); !reflect.DeepEqual(u, &Unit{}) {
			t.Errorf("Parse(%q) = %+v", s, u)
		}
	}
}

func TestScansFaultComesFirst(t *testing.T) {
	for _, s := range []string{"int #", "x #", "int f() { ] #", "int a[0]; #"} {
		failsAt(t, s, api.ErrLex, strings.Index(s, "#"))
	}
	failsAt(t, "x /* c", api.ErrLex, 2)
	failsAt(t, strings.Repeat(";", api.MaxSource+1), api.ErrSize, api.MaxSource)
	failsAt(t, strings.Repeat(" ", api.MaxSource+1), api.ErrSize, api.MaxSource)
	failsAt(t, ";"+strings.Repeat(" ", api.MaxSource-1), api.ErrParse, 0)
	parsed(t, strings.Repeat(" ", api.MaxSource))
}
