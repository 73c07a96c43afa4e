package check

import (
	"strconv"
	"testing"

	"merlon/api"
	"merlon/parse"
)

// opName is the text of an operation in the tests.
func opName(op int) string {
	names := []string{"?", "const", "g", "l", "f", "deref", "field", "load", "addr", "conv", "bin", "cmp", "ptrcmp", "ptradd", "ptrdiff", "and", "or", "cond", "assign", "assignop", "step", "call", "callptr", "out", "copy", "truth", "null"}
	if op < 0 || op >= len(names) {
		return "op" + strconv.Itoa(op)
	}
	return names[op]
}

// showNode is a tree's text: places and constants by their numbers, all others as an operation, its Text, its Num and its operands in brackets; behind each its type.
func showNode(p *Prog, n *Node) string {
	if n == nil {
		return "none"
	}
	var s string
	switch n.Op {
	case Const:
		s = strconv.FormatInt(n.Num, 10)
	case Global, Local, FuncVal:
		s = opName(n.Op) + strconv.Itoa(n.Ref)
	default:
		s = "(" + opName(n.Op)
		if n.Op == CallFunc {
			s += strconv.Itoa(n.Ref)
		}
		if n.Text != "" {
			s += " " + n.Text
		}
		if n.Num != 0 {
			s += " #" + strconv.FormatInt(n.Num, 10)
		}
		if n.Via.Kind != api.Void {
			s += " via " + p.Table.Show(n.Via)
		}
		for _, k := range n.Kids {
			s += " " + showNode(p, k)
		}
		s += ")"
	}
	return s + ":" + sort(p, n)
}

const few = "struct s { int a; int b; int n[3]; }; struct s z; struct s w; struct s *zp; int x; char c; unsigned u; long l; secret int k; int *p; int t[4]; int (*fp)(int, long); secret int kt[4]; "

// trees checks the trees of expressions; g0 is z, g1 is w, g2 is zp, g3 is x, g4 is c, g5 is u, g6 is l, g7 is k, g8 is p, g9 is t, g10 is fp, g11 is kt; f0 is f, f1 is main.
func trees(t *testing.T, want [][2]string) {
	t.Helper()
	for _, w := range want {
		p := passes(t, few+"int f(int a, long b) { return 0; } int main() { "+w[0]+"; return 0; }")
		if got := showNode(p, p.Funcs[1].Body.Kids[0].E); got != w[1] {
			t.Errorf("%s\n is %s,\nwant %s", w[0], got, w[1])
		}
	}
}

func TestTreesOfPlaces(t *testing.T) {
	trees(t, [][2]string{
		{"5", "5:int"},
		{"18446744073709551615", "-1:unsigned long"},
		{"x", "(load g3:int):int"},
		{"k", "(load g7:secret int):secret int"},
		{"f", "f0:int(int,long)*"},
		{"&f", "f0:int(int,long)*"},
		{"t", "(addr g9:int[4]):int*"},
		{"&t", "(addr g9:int[4]):int[4]*"},
		{"&x", "(addr g3:int):int*"},
		{"*p", "(load (deref (load g8:int*):int*):int):int"},
		{"&*p", "(addr (deref (load g8:int*):int*):int):int*"},
		{"t[1]", "(load (deref (ptradd #4 (addr g9:int[4]):int* (conv 1:int):long):int*):int):int"},
		{"1[t]", "(load (deref (ptradd late #4 (addr g9:int[4]):int* (conv 1:int):long):int*):int):int"},
		{"t[l]", "(load (deref (ptradd #4 (addr g9:int[4]):int* (load g6:long):long):int*):int):int"},
		{"t[k]", "(load (deref (ptradd #4 (addr g9:int[4]):int* (conv (load g7:secret int):secret int):secret long):int*^):int^):secret int"},
		{"z.a", "(load (field g0:struct s):int):int"},
		{"z.b", "(load (field #4 g0:struct s):int):int"},
		{"z.n", "(addr (field #8 g0:struct s):int[3]):int*"},
		{"zp->b", "(load (field #4 (deref (load g2:struct s*):struct s*):struct s):int):int"},
		{"(zp + k)->n", "(addr (field #8 (deref (ptradd #20 (load g2:struct s*):struct s* (conv (load g7:secret int):secret int):secret long):struct s*^):struct s^):int[3]^):int*^"},
		{"&zp->b", "(addr (field #4 (deref (load g2:struct s*):struct s*):struct s):int):int*"},
		{"sizeof(struct s)", "20:unsigned long"},
	})
}

func TestTreesOfOperators(t *testing.T) {
	trees(t, [][2]string{
		{"c + u", "(bin + (conv (load g4:char):char):unsigned int (load g5:unsigned int):unsigned int):unsigned int"},
		{"x - k", "(bin - (conv (load g3:int):int):secret int (load g7:secret int):secret int):secret int"},
		{"c << k", "(bin << (conv (load g4:char):char):secret int (conv (load g7:secret int):secret int):secret unsigned long):secret int"},
		{"k >> c", "(bin >> (load g7:secret int):secret int (conv (load g4:char):char):unsigned long):secret int"},
		{"u < l", "(cmp < (conv (load g5:unsigned int):unsigned int):long (load g6:long):long):int"},
		{"c == k", "(cmp == (conv (load g4:char):char):secret int (load g7:secret int):secret int):secret int"},
		{"p == t", "(ptrcmp == (load g8:int*):int* (addr g9:int[4]):int*):int"},
		{"p != 0", "(ptrcmp != (load g8:int*):int* (null):int*):int"},
		{"0 == fp", "(ptrcmp == (null):int(int,long)* (load g10:int(int,long)*):int(int,long)*):int"},
		{"p + c", "(ptradd #4 (load g8:int*):int* (conv (load g4:char):char):long):int*"},
		{"c + p", "(ptradd late #4 (load g8:int*):int* (conv (load g4:char):char):long):int*"},
		{"zp - l", "(ptradd #-20 (load g2:struct s*):struct s* (load g6:long):long):struct s*"},
		{"p - t", "(ptrdiff #4 (load g8:int*):int* (addr g9:int[4]):int*):long"},
		{"-c", "(bin - 0:int (conv (load g4:char):char):int):int"},
		{"~k", "(bin ^ -1:secret int (load g7:secret int):secret int):secret int"},
		{"~u", "(bin ^ 4294967295:unsigned int (load g5:unsigned int):unsigned int):unsigned int"},
		{"~1ul", "(bin ^ -1:unsigned long 1:unsigned long):unsigned long"},
		{"!x", "(truth ! (load g3:int):int):int"},
		{"!p", "(truth ! (load g8:int*):int*):int"},
		{"x && k", "(and (truth (load g3:int):int):int (truth (load g7:secret int):secret int):secret int):secret int"},
		{"p || !x", "(or (truth (load g8:int*):int*):int (truth (truth ! (load g3:int):int):int):int):int"},
		{"x ? c : u", "(cond (truth (load g3:int):int):int (conv (load g4:char):char):unsigned int (load g5:unsigned int):unsigned int):unsigned int"},
		{"k ? 1 : 2", "(cond (truth (load g7:secret int):secret int):secret int (conv 1:int):secret int (conv 2:int):secret int):secret int"},
		{"x ? p : 0", "(cond (truth (load g3:int):int):int (load g8:int*):int* (null):int*):int*"},
		{"k ? 0 : p", "(cond (truth (load g7:secret int):secret int):secret int (null):int* (load g8:int*):int*):int*^"},
		{"(char) x", "(conv (load g3:int):int):char"},
		{"(int) x", "(conv (load g3:int):int):int"},
		{"(int) k", "(conv (load g7:secret int):secret int):secret int"},
	})
}

func TestTreesOfChanges(t *testing.T) {
	trees(t, [][2]string{
		{"x = c", "(assign g3:int (conv (load g4:char):char):int):int"},
		{"c = x = 1", "(assign g4:char (conv (assign g3:int 1:int):int):char):char"},
		{"k = x", "(assign g7:secret int (conv (load g3:int):int):secret int):secret int"},
		{"p = 0", "(assign g8:int* (null):int*):int*"},
		{"p = t", "(assign g8:int* (addr g9:int[4]):int*):int*"},
		{"kt[k] = 1", "(assign (deref (ptradd #4 (addr g11:secret int[4]):secret int* (conv (load g7:secret int):secret int):secret long):secret int*^):secret int^ (conv 1:int):secret int):secret int"},
		{"z = w", "(copy #20 g0:struct s g1:struct s):void"},
		{"*zp = z", "(copy #20 (deref (load g2:struct s*):struct s*):struct s g0:struct s):void"},
		{"c += u", "(assignop + via unsigned int g4:char (load g5:unsigned int):unsigned int):char"},
		{"c *= c", "(assignop * via int g4:char (conv (load g4:char):char):int):char"},
		{"k |= c", "(assignop | via secret int g7:secret int (conv (load g4:char):char):secret int):secret int"},
		{"c <<= l", "(assignop << via int g4:char (conv (load g6:long):long):unsigned long):char"},
		{"u >>= x", "(assignop >> via unsigned int g5:unsigned int (conv (load g3:int):int):unsigned long):unsigned int"},
		{"k >>= k", "(assignop >> via secret int g7:secret int (conv (load g7:secret int):secret int):secret unsigned long):secret int"},
		{"p += c", "(assignop + #4 g8:int* (conv (load g4:char):char):long):int*"},
		{"zp -= l", "(assignop - #-20 g2:struct s* (load g6:long):long):struct s*"},
		{"x++", "(step post #1 g3:int):int"},
		{"--x", "(step pre #-1 g3:int):int"},
		{"++p", "(step pre #4 g8:int*):int*"},
		{"zp--", "(step post #-20 g2:struct s*):struct s*"},
		{"k++", "(step post #1 g7:secret int):secret int"},
		{"f(c, 2)", "(call0 (conv (load g4:char):char):int (conv 2:int):long):int"},
		{"main()", "(call1):int"},
		{"fp(1, l)", "(callptr (load g10:int(int,long)*):int(int,long)* 1:int (load g6:long):long):int"},
		{"(x ? f : fp)(1, l)", "(callptr (cond (truth (load g3:int):int):int f0:int(int,long)* (load g10:int(int,long)*):int(int,long)*):int(int,long)* 1:int (load g6:long):long):int"},
		{"out(c)", "(out (load g4:char):char):void"},
	})
}

// showStmt is a statement's text: its kind, its local, its expressions and its statements.
func showStmt(p *Prog, s *Stmt) string {
	names := []string{"?", "do", "let", "block", "if", "while", "until", "for", "switch", "break", "continue", "return", "empty"}
	text := names[s.Kind]
	if s.Kind == parse.Let {
		text += strconv.Itoa(s.Local)
	}
	if s.E != nil {
		text += " " + showNode(p, s.E)
	}
	if s.Step != nil {
		text += " step " + showNode(p, s.Step)
	}
	for _, k := range s.Kids {
		text += " " + showStmt(p, k)
	}
	for _, c := range s.Cases {
		text += " case"
		for _, v := range c.Values {
			text += " " + strconv.FormatInt(v, 10)
		}
		for _, k := range c.Body {
			text += " " + showStmt(p, k)
		}
	}
	return "{" + text + "}"
}

func TestTreesOfStatements(t *testing.T) {
	for _, w := range [][2]string{
		{";", "{empty}"},
		{"{ ; {} }", "{block {empty} {block}}"},
		{"x;", "{do (load g3:int):int}"},
		{"t;", "{do (addr g9:int[4]):int*}"},
		{"int y;", "{let1}"},
		{"char y = x;", "{let1 (conv (load g3:int):int):char}"},
		{"int y = 1;", "{let1 1:int}"},
		{"int *y = 0;", "{let1 (null):int*}"},
		{"struct s y = z;", "{let1 (copy #20 l1:struct s g0:struct s):void}"},
		{"if (x) ;", "{if (truth (load g3:int):int):int {empty}}"},
		{"if (x) ; else { }", "{if (truth (load g3:int):int):int {empty} {block}}"},
		{"while (a) break;", "{while (truth (load l0:long):long):int {break}}"},
		{"while (!a) continue;", "{while (truth (truth ! (load l0:long):long):int):int {continue}}"},
		{"do ; while (k);", "{until (truth (load g7:secret int):secret int):secret int {empty}}"},
		{"for (; ; ) ;", "{for {empty} {empty}}"},
		{"for (x = 1; x; x++) ;", "{for (truth (load g3:int):int):int step (step post #1 g3:int):int {do (assign g3:int 1:int):int} {empty}}"},
		{"for (int y = 1; ; y) y;", "{for step (load l1:int):int {let1 1:int} {do (load l1:int):int}}"},
		{"switch (c) { case 1: ; case 2: default: { } ; }", "{switch (conv (load g4:char):char):int case 1 {empty} case 2 {block} {empty}}"},
		{"return;", "{return}"},
	} {
		p := passes(t, few+"void f(long a) { "+w[0]+" } int main() { return 0; }")
		if got := showStmt(p, p.Funcs[0].Body.Kids[0]); got != w[1] {
			t.Errorf("%s\n is %s,\nwant %s", w[0], got, w[1])
		}
	}
	p := passes(t, "char f(long a, int *p) { return a; } int *g() { return 0; } int main() { return 1; }")
	for i, want := range []string{"{block {return (conv (load l0:long):long):char}}", "{block {return (null):int*}}", "{block {return 1:int}}"} {
		if got := showStmt(p, p.Funcs[i].Body); got != want {
			t.Errorf("%s, want %s", got, want)
		}
	}
}

// Offsets are those of the source's expressions and statements.
func TestOffsets(t *testing.T) {
	s := "int x; int main() { x = 1 + -x; for (; x; x++) ; return 0; }"
	p := passes(t, s)
	f := p.Funcs[0]
	if f.At != 11 || f.Body.At != 18 {
		t.Errorf("main at %d, its body at %d", f.At, f.Body.At)
	}
	first, loop := f.Body.Kids[0], f.Body.Kids[1]
	sum := first.E.Kids[1]
	for i, w := range [][2]int{{first.At, 20}, {first.E.At, 22}, {first.E.Kids[0].At, 20}, {sum.At, 26}, {sum.Kids[0].At, 24}, {sum.Kids[1].At, 28}, {sum.Kids[1].Kids[1].At, 29}, {loop.At, 32}, {loop.Kids[0].At, 37}, {loop.E.At, 39}, {loop.Step.At, 43}, {loop.Kids[1].At, 47}, {f.Body.Kids[2].At, 49}} {
		if w[0] != w[1] {
			t.Errorf("offset %d is %d, want %d", i, w[0], w[1])
		}
	}
}
