package check

import (
	"strings"
	"testing"

	"merlon/api"
)

// Each source has a fault of every stage of checking; the first stage's is removed from one to the next.
func TestOrderOfStages(t *testing.T) {
	wholes(t, []sample{
		{"int x = y; int main() { return w; } int f(struct n *a) {} struct n *g; struct @a { };", api.ErrType},
		{"int x = y; int main() { return w; } int f(struct n *a) {} @struct n *g; struct a { int a; };", api.ErrName},
		{"int x = y; int main() { return w; } int f(@struct n *a) {} int *g; struct a { int a; };", api.ErrName},
		{"@int x = y; int man() { return w; } int f(int *a) {} int *g; struct a { int a; };", api.ErrMain},
		{"int x = @y; int main() { return w; } int f(int *a) {} int *g; struct a { int a; };", api.ErrName},
		{"int x = 1; int main() { return @w; } int f(int *a) {} int *g; struct a { int a; };", api.ErrName},
		{"int x = 1; int main() { return 0; } int f(int *a) { @return; } int *g; struct a { int a; };", api.ErrType},
	})
}

func TestOrderInStructs(t *testing.T) {
	wholes(t, ended([]sample{
		{"struct a { @struct n *b; struct m *c; };", api.ErrName},
		{"struct @a { }; struct b { struct n *b; };", api.ErrType},
		{"struct a { int x; }; struct b { @struct n *b; }; struct c { };", api.ErrName},
	}))
}

func TestOrderInGlobals(t *testing.T) {
	wholes(t, ended([]sample{
		{"int x; @struct n x;", api.ErrName},
		{"int x; void @x;", api.ErrTwice},
		{"int x; char @x[4096][4096];", api.ErrTwice},
		{"char y[4096][8]; void @x;", api.ErrType},
		{"char @y[4096][9]; void x;", api.ErrFrame},
		{"void @x; struct n *y;", api.ErrType},
		{"int x; int @x; struct n *y;", api.ErrTwice},
	}))
}

func TestOrderInFunctions(t *testing.T) {
	wholes(t, ended([]sample{
		{"int f; struct s { int a; }; struct s @f(void v) {}", api.ErrType},
		{"int f; @struct n *f(void v) {}", api.ErrName},
		{"int f; int @f(void v) {}", api.ErrTwice},
		{"int f(int a, void @v, struct n *b) {}", api.ErrType},
		{"int f(int a, @struct n *b, void v) {}", api.ErrName},
		{"int f(int a, int a, void @v) {}", api.ErrType},
		{"int f(int a) { return y; } int f2(void @v) {}", api.ErrType},
		{"int f(int a, int @a, int a) { return y; }", api.ErrTwice},
		{"int f(int a) { return @y; } int g(int a, int a) {}", api.ErrName},
	}))
}

func TestOrderInStatements(t *testing.T) {
	bodies(t, []sample{
		{"@a1; a2;", api.ErrName},
		{"if (@a1) a2; else a3;", api.ErrName},
		{"if (x) @a2; else a3;", api.ErrName},
		{"if (x) x; else @a3;", api.ErrName},
		{"while (@a1) a2;", api.ErrName},
		{"while (x) @a2;", api.ErrName},
		{"do @a1; while (a2);", api.ErrName},
		{"do x; while (@a2);", api.ErrName},
		{"for (@a1; a2; a3) a4;", api.ErrName},
		{"for (; @a2; a3) a4;", api.ErrName},
		{"for (; ; @a3) a4;", api.ErrName},
		{"for (; ; ) @a4;", api.ErrName},
		{"for (x; @z; a3) a4;", api.ErrType},
		{"switch (@a1) { case a2: a3; }", api.ErrName},
		{"switch (@z) { case a2: a3; }", api.ErrType},
		{"switch (x) { case @a2: a3; }", api.ErrName},
		{"switch (x) { case @x: case a2: a3; }", api.ErrConst},
		{"switch (x) { case 1: @a3; case a4: a5; }", api.ErrName},
		{"switch (x) { case 1: x; case @a4: a5; }", api.ErrName},
		{"switch (x) { case 1: x; case 1 @+ z: a5; }", api.ErrType},
		{"switch (x) { default: x; case 1: @a3; default: a5; }", api.ErrName},
		{"switch (x) { default: x; case 1: x; default: case @a4: a5; }", api.ErrName},
		{"switch (x) { default: x; case 1: x; @default: case 2: a5; }", api.ErrJump},
		{"switch (x) { default: x; case 1: x; @case 2: default: a5; }", api.ErrJump},
		{"switch (x) { default: x; case 1: x; default: case @1: a5; }", api.ErrJump},
		{"{ { @a1; } } a2;", api.ErrName},
		{"return @a1 = z;", api.ErrName},
	})
}

func TestOrderInDeclarations(t *testing.T) {
	bodies(t, []sample{
		{"int y; @struct n y = a1;", api.ErrName},
		{"int y; @secret void *y = a1;", api.ErrType},
		{"int y; void y = @a1;", api.ErrName},
		{"int y; int y = x @+ z;", api.ErrType},
		{"int y; void @y = z;", api.ErrTwice},
		{"int y; char @y[4096][2] = z;", api.ErrTwice},
		{"void @y = z;", api.ErrType},
		{"int a[1000]; int b[23]; int @y[2] = 5;", api.ErrFrame},
		{"int @y[2] = 5;", api.ErrType},
		{"int @y[2] = t;", api.ErrType},
		{"struct s @y = x;", api.ErrType},
		{"int y = @y1 = 5;", api.ErrName},
	})
}

func TestOrderInExpressions(t *testing.T) {
	bodies(t, []sample{
		{"@a1 + a2;", api.ErrName},
		{"x + @a2;", api.ErrName},
		{"z + @a2;", api.ErrName},
		{"z @+ x;", api.ErrType},
		{"@a1[a2];", api.ErrName},
		{"x[@a2];", api.ErrName},
		{"@a1 = a2;", api.ErrName},
		{"@5 = a2;", api.ErrPlace},
		{"@t = a2;", api.ErrPlace},
		{"@t += a2;", api.ErrPlace},
		{"z = @a2;", api.ErrName},
		{"z += @a2;", api.ErrName},
		{"t[k] = @a2;", api.ErrName},
		{"@a1 && a2;", api.ErrName},
		{"@z && a2;", api.ErrType},
		{"x && @a2;", api.ErrName},
		{"x && @z;", api.ErrType},
		{"@z || a2;", api.ErrType},
		{"@a1 ? a2 : a3;", api.ErrName},
		{"@z ? a2 : a3;", api.ErrType},
		{"x ? @a2 : a3;", api.ErrName},
		{"x ? z : @a3;", api.ErrName},
		{"x @? z : x;", api.ErrType},
		{"@a1(a2);", api.ErrName},
		{"x@(a2);", api.ErrType},
		{"f@(a2, a3);", api.ErrCall},
		{"g(@p, a3);", api.ErrType},
		{"g(x, @a3);", api.ErrName},
		{"g(@a2, a3);", api.ErrName},
		{"g(@k, a3);", api.ErrFlow},
		{"out@(a1, a2);", api.ErrCall},
		{"out(@a1);", api.ErrName},
		{"ft[k]@(a2, a3);", api.ErrFlow},
		{"(@struct n) a2;", api.ErrName},
		{"@(void) a2;", api.ErrType},
		{"@(int *) a2;", api.ErrType},
		{"(int) @a2;", api.ErrName},
		{"(int) @z;", api.ErrType},
		{"@a1.a;", api.ErrName},
		{"@a1->a;", api.ErrName},
		{"@a1++;", api.ErrName},
		{"&@a1;", api.ErrName},
		{"*@a1;", api.ErrName},
		{"-@a1;", api.ErrName},
		{"!@a1;", api.ErrName},
	})
}

// A fault behind the first one doesn't matter, whatever it is.
func TestFirstFault(t *testing.T) {
	bad := []string{"a1;", "struct n q; q.a;", "break;", "int y; int y;", "5 = x;", "x = z;", "return;", "x = k;", "f();", "char m[4096][4096];", "switch (x) { case x: ; }", "struct n *q; q->a = *q; q[1]++; (*q)(1);", "void q; q++; q = q; &q; q.a; out(q); -q; q ? q : q; q(q);"}
	for _, later := range bad {
		fails(t, inMain("@nowhere; "+later), api.ErrName)
		fails(t, inMain("@continue; "+later), api.ErrJump)
		for _, s := range []string{inMain("@(void) x; " + later), inMain("int @y[2] = 1; " + later)} {
			fails(t, s, api.ErrType)
		}
	}
	for _, s := range bad {
		at := strings.Index(inMain("#"), "#")
		p, f := Check(inMain(s))
		if p != nil || f.Kind == api.OK || f.At < at {
			t.Errorf("%q: fault %d at %d", s, int(f.Kind), f.At)
		}
	}
}
