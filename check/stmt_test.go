package check

import (
	"slices"
	"strings"
	"testing"

	"merlon/api"
)

func TestReturns(t *testing.T) {
	samples := []sample{
		{"int f() { return 1; }", api.OK}, {"int f() { }", api.OK}, {"void f() { return; }", api.OK}, {"void f() { }", api.OK}, {"char *f() { return 0; }", api.OK}, {"secret int f(int a) { return a; }", api.OK}, {"char f(long a) { return a; }", api.OK},
		{"int f() { @return; }", api.ErrType}, {"int *f() { @return; }", api.ErrType}, {"secret int f() { if (1) @return; }", api.ErrType},
		{"void f() { @return 1; }", api.ErrType}, {"void f() { @return 0; }", api.ErrType}, {"void h() {} void f() { @return h(); }", api.ErrType}, {"void f(int *p) { @return p; }", api.ErrType}, {"void f(secret int k) { @return k; }", api.ErrType},
		{"void f() { return @y; }", api.ErrName}, {"int f() { return @y; }", api.ErrName},
		{"int f(secret int k) { @return k; }", api.ErrFlow}, {"int f(secret int k, int a) { if (k) return a; return 1; }", api.OK}, {"int f(int *p) { @return p; }", api.ErrType}, {"int *f(int a) { @return a; }", api.ErrType}, {"int t[2]; int *f(secret int k) { @return t + k; }", api.ErrFlow},
	}
	wholes(t, ended(samples))
}

func TestJumps(t *testing.T) {
	for _, loop := range []string{"while (x) #", "do # while (x);", "for (; ; ) #", "while (x) { if (x) { #; } }", "do { switch (x) { case 1: # } } while (x);", "for (; ; ) { while (x) ; # }"} {
		bodies(t, []sample{{replaced(loop, "break;"), api.OK}, {replaced(loop, "continue;"), api.OK}})
	}
	bodies(t, []sample{
		{"@break;", api.ErrJump}, {"@continue;", api.ErrJump}, {"if (x) @break;", api.ErrJump}, {"if (x) ; else { @continue; }", api.ErrJump},
		{"switch (x) { case 1: break; default: break; }", api.OK}, {"switch (x) { case 1: @continue; }", api.ErrJump}, {"switch (x) { case 1: { if (x) @continue; } }", api.ErrJump},
		{"while (x) ; @break;", api.ErrJump}, {"while (x) ; @continue;", api.ErrJump}, {"do ; while (x); @continue;", api.ErrJump}, {"for (; ; ) ; @break;", api.ErrJump}, {"switch (x) { } @break;", api.ErrJump},
		{"while (x) switch (x) { case 1: continue; } @continue;", api.ErrJump}, {"switch (x) { case 1: while (x) continue; @continue; }", api.ErrJump}, {"switch (x) { case 1: while (x) break; break; }", api.OK},
	})
	fails(t, "int f() { while (1) ; } int g() { @break; } int main() { return 0; }", api.ErrJump)
}

func TestSwitches(t *testing.T) {
	bodies(t, []sample{
		{"switch (x) { }", api.OK}, {"switch (k) { case 1: ; }", api.OK}, {"switch (kc) { default: ; }", api.OK}, {"switch (t[k]) { case 1: ; }", api.OK}, {"switch (ul) { case 1: case 2: ; case 3: ; default: case 4: ; }", api.OK},
		{"switch (@p) { }", api.ErrType}, {"switch (@z) { }", api.ErrType}, {"switch (nothing@()) { }", api.ErrType}, {"switch (@f) { }", api.ErrType},
		{"switch (x) { case @p: ; }", api.ErrType}, {"switch (x) { case @z: ; }", api.ErrType}, {"switch (x) { case @f: ; }", api.ErrType}, {"switch (x) { case nothing@(): ; }", api.ErrType}, {"switch (x) { case 1 @+ p: ; }", api.ErrType},
		{"switch (x) { case @x: ; }", api.ErrConst}, {"switch (x) { case f@(1): ; }", api.ErrConst}, {"switch (x) { case 1 @+ x: ; }", api.ErrConst}, {"switch (x) { case 1 @/ 0: ; }", api.ErrConst}, {"switch (x) { case 1 @? 2 : 3: ; }", api.ErrConst}, {"switch (x) { case 1 @&& 1: ; }", api.ErrConst}, {"switch (x) { case (x @= 1): ; }", api.ErrConst}, {"switch (x) { case @k: ; }", api.ErrConst},
		{"switch (x) { case -1: case ~1: case !1: case 'a': case sizeof(long): case (char) 300: case 3 * 4: case 1 << 6: case 3 < 2 | 16: ; }", api.OK}, {"switch (x) { case (secret int) 1: ; }", api.OK},
		{"switch (x) { case 1: case @1: ; }", api.ErrJump}, {"switch (x) { case 1: ; case @1: ; }", api.ErrJump}, {"switch (x) { case 1: ; case 2: case 3 @- 2: ; }", api.ErrJump}, {"switch (x) { default: case 0: ; case @!5: ; }", api.ErrJump},
		{"switch (x) { default: ; @default: ; }", api.ErrJump}, {"switch (x) { case 1: default: ; @case 2: default: ; }", api.ErrJump}, {"switch (x) { default: ; case 2: ; @default: ; }", api.ErrJump},
		{"switch (x) { case 1: switch (x) { case 1: default: ; } default: ; }", api.OK},
		{"switch (x) { case 0: ; case @4294967296: ; }", api.ErrJump}, {"switch (l) { case 0: case 4294967296: ; }", api.OK}, {"switch (c) { case 1: case 257: ; }", api.OK}, {"switch (c) { case 1: case @4294967297: ; }", api.ErrJump}, {"switch (x) { case -1: case @4294967295u: ; }", api.ErrJump}, {"switch (u) { case -1: case @4294967295: ; }", api.ErrJump}, {"switch (l) { case -1: case 4294967295u: ; }", api.OK}, {"switch (ul) { case -1: case @18446744073709551615: ; }", api.ErrJump}, {"switch (uc) { case 0: case 256: ; }", api.OK}, {"switch (ks) { case 1: case @(char) 257: ; }", api.ErrJump},
	})
}

func TestCasesOfSwitches(t *testing.T) {
	p, m := mainOf(t, "switch (uc) { case 1: case 'a': x; case -1: default: x; x; case 4294967298: case 1 + 2: } switch (ku) { case -1: } switch (l) { default: }")
	s := m.Body.Kids[0]
	if sort(p, s.E) != "int" || s.E.Op != Conv {
		t.Errorf("a switch of type %s", sort(p, s.E))
	}
	want := []Case{{Values: []int64{1, 97}}, {Values: []int64{-1}, Default: true}, {Values: []int64{2, 3}}}
	for i, w := range want {
		if k := s.Cases[i]; !slices.Equal(k.Values, w.Values) || k.Default != w.Default || len(k.Body) != []int{1, 2, 0}[i] {
			t.Errorf("case %d: %v, want %v", i, k, w)
		}
	}
	s = m.Body.Kids[1]
	if sort(p, s.E) != "secret unsigned int" || s.E.Op != Load || s.Cases[0].Values[0] != 4294967295 {
		t.Errorf("a switch of type %s: %v", sort(p, s.E), s.Cases)
	}
	s = m.Body.Kids[2]
	if sort(p, s.E) != "long" || len(s.Cases) != 1 || len(s.Cases[0].Values) != 0 || !s.Cases[0].Default {
		t.Errorf("a switch of type %s: %v", sort(p, s.E), s.Cases)
	}
}

func TestScopes(t *testing.T) {
	bodies(t, []sample{
		{"int y; int @y;", api.ErrTwice}, {"int y; { int y; { int y; } int @y; }", api.ErrTwice}, {"{ int y; } @y;", api.ErrName}, {"{ int y; } int y; y;", api.OK}, {"int y; { y; } y;", api.OK}, {"{ int y; { y; } } { @y; }", api.ErrName},
		{"int y = @y;", api.ErrName}, {"int x = x;", api.OK}, {"int y; { int y = y; }", api.OK}, {"int *x = &x;", api.OK},
		{"if (x) int y; @y;", api.ErrName}, {"if (x) int y; else @y;", api.ErrName}, {"if (x) int y; else int y;", api.OK}, {"int y; if (x) int y; else int y;", api.OK}, {"if (x) { int y; } else @y;", api.ErrName},
		{"while (x) int y; @y;", api.ErrName}, {"int y; while (x) int y;", api.OK}, {"do int y; while (@y);", api.ErrName}, {"do { int y; } while (@y);", api.ErrName}, {"int y; do int y; while (y);", api.OK},
		{"for (int y; y; y++) y;", api.OK}, {"for (int y; y; y++) y; @y;", api.ErrName}, {"int y; for (int y; ; ) ;", api.OK}, {"for (int y; ; ) int y;", api.OK}, {"for (int y; ; ) { int y; }", api.OK}, {"for (int y; ; ) ; for (int y; ; ) ;", api.OK}, {"for (; ; ) int y; @y;", api.ErrName}, {"for (; ; @y) int y;", api.ErrName}, {"for (int y = @y; ; ) ;", api.ErrName},
		{"switch (x) { case 1: int y; case 2: y; }", api.OK}, {"switch (x) { case 1: int y; case 2: int @y; }", api.ErrTwice}, {"switch (x) { case 1: int y; } @y;", api.ErrName}, {"int y; switch (x) { case 1: int y; }", api.OK}, {"switch (x) { case 1: { int y; } case 2: @y; }", api.ErrName}, {"switch (x) { case 1: @y; int y; }", api.ErrName}, {"switch (x) { case 1: int y; case @y: ; }", api.ErrConst},
		{"int x; x = 1; int f; f = 2;", api.OK}, {"int f; f@(1);", api.ErrType}, {"int main; main = 1;", api.OK}, {"char *t; t = cp;", api.OK}, {"secret int x; x = k; int @y = x;", api.ErrFlow},
		{"int s; struct s z; z.a = s;", api.OK}, {"struct s s; s.a = 1;", api.OK},
		{"{ secret int x = 1; x = k; } x @= k;", api.ErrFlow},
	})
	wholes(t, ended([]sample{
		{"int f(int a) { int a; return a; }", api.OK}, {"int f(int a, int @a) { return a; }", api.ErrTwice}, {"int f(int a, int b, char @a) { return 0; }", api.ErrTwice}, {"int f(int f) { return f; }", api.OK}, {"int x; int f(int x, int *y) { return *y + x; }", api.OK},
		{"int f(int a) { return a; } int g() { return @a; }", api.ErrName}, {"int f(int a) { return a; } int g(int a) { return a; }", api.OK}, {"int f() { int a; return a; } int g() { return @a; }", api.ErrName},
		{"int x; int @x;", api.ErrTwice}, {"int f() { return 0; } int @f() { return 0; }", api.ErrTwice}, {"int x; int @x() { return 0; }", api.ErrTwice}, {"int @x() { return 0; } int x;", api.ErrTwice}, {"struct x { int x; }; int x;", api.OK},
		{"int f() { return g() + x; } int g() { return f(); } int x;", api.OK}, {"int f(struct s *a) { return a->b; } struct s { int b; };", api.OK},
	}))
}

// A scope's end gives back the outer local, with its own type and number.
func TestShadowing(t *testing.T) {
	p := passes(t, things+"int g1(char x) { x; { int *x; x; for (secret int x = k; x; ) x; x; } x; t; long t; t; return 0; } int main() { return 0; }")
	f := p.Funcs[slices.IndexFunc(p.Funcs, func(f Fn) bool { return f.Name == "g1" })]
	var got []string
	var visit func(s *Stmt)
	visit = func(s *Stmt) {
		if s.Kind == 1 {
			n := s.E.Kids[0]
			got = append(got, showNode(p, n))
		}
		for _, k := range s.Kids {
			visit(k)
		}
	}
	visit(f.Body)
	want := "l0:char l1:int* l2:secret int l1:int* l0:char g20:int[4] l3:long"
	if strings.Join(got, " ") != want {
		t.Errorf("%s, want %s", strings.Join(got, " "), want)
	}
}
