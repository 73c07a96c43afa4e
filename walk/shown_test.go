package walk

import (
	"testing"

	"merlon/api"
)

// TestOrder: operands are evaluated as they stand; f writes its argument and returns it, p writes it and returns a pointer, s likewise to a struct.
func TestOrder(t *testing.T) {
	const funcs = "int t[9] = {0, 1, 2, 3, 4, 5, 6, 7, 8}; struct s { int a; int b[2]; struct s *n; int (*c)(int, int); }; struct s z[3]; int f(int n) { out(n); return n; } int *p(int n) { out(n); return t + n; } struct s *s(int n) { out(n); return &z[n]; } int add(int a, int b) { out(a * 10 + b); return a; } "
	for statement, out := range map[string]string{
		"f(1) + f(2) * f(3);": "1 2 3", "(f(1) - f(2)) / f(3);": "1 2 3", "f(1) < f(2);": "1 2", "f(1) << f(2);": "1 2", "f(3) == f(1);": "3 1",
		"t[f(1)] = f(2);": "1 2", "t[f(1)] += f(2);": "1 2", "*p(1) = f(2);": "1 2", "*p(1) -= f(2);": "1 2", "*p(1) = *p(2) = f(3);": "1 2 3", "t[f(1)] = t[f(2)]++ + --t[f(3)];": "1 2 3",
		"p(1)[f(2)];": "1 2", "f(1)[p(2)];": "1 2", "*(p(1) + f(2));": "1 2", "*(f(1) + p(2));": "1 2", "p(5) - f(2);": "5 2", "p(1) - p(2);": "1 2", "p(2) == p(1);": "2 1", "p(2) < p(1);": "2 1", "f(1)[p(2)] = f(3);": "1 2 3", "&f(1)[p(2)] - p(0);": "1 2 0",
		"add(f(1), f(2));": "1 2 12", "add(add(f(1), f(2)), add(f(3), f(4)));": "1 2 12 3 4 34 13", "out(f(1));": "1 1",
		"z[1].c = add; s(1)->c(f(2), f(3));": "1 2 3 23", "z[f(1)].b[f(0)] = f(2);": "1 0 2", "*s(1) = *s(2);": "1 2", "struct s y = *s(1);": "1", "z[f(2)] = z[f(1)];": "2 1", "s(1)->b[f(1)] = s(2)->a;": "1 1 2",
		"f(1) ? f(2) : f(3);": "1 2", "f(0) ? f(2) : f(3);": "0 3", "f(1) && f(0) && f(2);": "1 0", "f(0) || f(2) || f(3);": "0 2", "f(0) && f(1) || f(2);": "0 2", "!f(1) || f(2) && f(0);": "1 2 0", "-f(1) + ~f(2);": "1 2",
		"int x = f(1) + f(2); x += f(3);": "1 2 3", "switch (f(1)) { case 1: f(2); }": "1 2", "for (f(1); f(0); f(3)) f(2);": "1 0", "int i = 0; for (f(1); f(i) < 2; f(i++ + 5)) f(i + 10);": "1 0 10 5 1 11 6 2",
		"int i = 0; do f(i); while (f(++i) < 2);": "0 1 1 2", "int i = 0; do { if (i == 1) continue; f(i + 10); } while (f(++i) < 3);": "10 1 2 12 3", "int i = 0; while (f(i) < 2) { f(i + 10); i++; }": "0 10 1 11 2",
	} {
		tells(t, funcs+body(statement+" return 0;"), "", out, 0)
	}
}

// TestOrderOfValues: when a value is read tells whether a change is seen.
func TestOrderOfValues(t *testing.T) {
	const f = "int g = 1; int set(int *p) { *p = 10; return 1; } "
	for expression, exit := range map[string]int64{
		"x + set(&x)": 2, "set(&x) + x": 11, "x += set(&x)": 2, "(x += set(&x)) + x": 4, "x = set(&x)": 1, "(x = set(&x)) + x": 2, "x - set(&x) * x": -9, "x < set(&x)": 0, "set(&x) < x": 1,
		"x + x++": 2, "x++ + x": 3, "x + ++x": 3, "++x + x": 4, "(x = 5) + x": 10, "x + (x = 5)": 6, "x = x++": 1, "x += x++": 2, "x += x += 3": 5, "x++ + x++ * 10": 21, "g + set(&g)": 2, "g += set(&g)": 2, "set(&g) + g": 11,
		"x == 1 && set(&x) && x == 10": 1, "x ? set(&x) ? x : 3 : 4": 10, "t[x] + (x = 0)": 5, "(x = 0) + t[x]": 4, "t[x] = x = 2": 2, "(t[x] = x = 2) + t[1] * 10": 22, "t[x++] += x": 7, "(t[x++] += x) * 100 + t[1] * 10 + x": 772, "two(x, set(&x), x)": 120, "two(set(&x), x, 0)": 200,
		"*p++ + *p * 10": 54, "*p + *p++ * 10": 44, "(*p++ = 8) + *p * 100 + t[0]": 516, "(p += set(&x)) - t + x": 11, "p[x] + (p = t + 1)[x]": 11,
	} {
		source := f + "int two(int a, int b, int c) { return a * 100 + b * 10 + c; } int main() { int x = 1; &x; int t[3]; t[0] = 4; t[1] = 5; t[2] = 6; int *p = t; return " + expression + "; }"
		if r := walked(t, source, ""); r.End != api.OK || r.Exit != exit {
			t.Errorf("%s: ends with %d, returns %d, want %d", expression, int(r.End), r.Exit, exit)
		}
	}
}

func TestObservations(t *testing.T) {
	// x is object 0, t 1, z 2, y 3, k 4; the locals in memory of main begin with 5.
	const globals = "int x = 1; int t[4] = {4, 5, 6, 7}; struct s { char a; int b; int c[2]; }; struct s z = {1, 2, {3, 4}}; struct s y; secret int k; int *n; "
	const funcs = "int f(int a) { return a + 1; } int g(int a) { int *p = &a; return *p; } int h() { int t[2]; t[0] = 1; return g(t[0]) + f(t[0]); } "
	for statements, leaks := range map[string]string{
		"": "", "1 + 2;": "", "int a = 1; a = a + 1; a += a++; if (a) ;": "B1", "x;": "R0+0", "x = 2;": "W0+0", "x += 2;": "R0+0 W0+0", "x++; --x;": "R0+0 W0+0 R0+0 W0+0", "&x; &t[2]; t; &z.b; z.c;": "", "out(x);": "R0+0",
		"t[x] = t[2];": "R0+0 R1+8 W1+4", "t[x] += t[2];": "R0+0 R1+4 R1+8 W1+4", "x = t[x] = 3;": "R0+0 W1+4 W0+0", "z.b = z.c[x];": "R0+0 R2+12 W2+4", "int *p = t + 1; *p = p[1];": "R1+8 W1+4", "struct s *p = &z; p->a; p->c[1] = p->b;": "R2+0 R2+4 W2+12",
		// A part of && and || is shown when it is evaluated, and so is a condition.
		"if (x) ;": "R0+0 B1", "if (!x) ;": "R0+0 B0", "if (x - 1) ; else ;": "R0+0 B0", "if (7) ;": "B1", "!x;": "R0+0", "x == 1;": "R0+0", "!!x;": "R0+0", "x && t[0];": "R0+0 B1 R1+0 B1", "!x && t[0];": "R0+0 B0", "x || t[0];": "R0+0 B1", "!x || t[0];": "R0+0 B0 R1+0 B1", "5 && 0;": "B1 B0",
		"if (x && !t[0]) ;": "R0+0 B1 R1+0 B0 B0", "if (0 || x) ; else ;": "B0 R0+0 B1 B1", "if (!(x && 0)) ;": "R0+0 B1 B0 B1", "0 && 1 || 2 && 3;": "B0 B0 B1 B1 B1", "int a = x ? t[0] : t[1];": "R0+0 B1 R1+0", "int a = x - 1 ? t[0] : t[1];": "R0+0 B0 R1+4", "if (x ? 0 : 1) ;": "R0+0 B1 B0", "if (&x) ; if (n) ; n || &t;": "B1 R5+0 B0 R5+0 B0 B1", "!n; !&x; n == 0;": "R5+0 R5+0",
		"while (x) x--;": "R0+0 B1 R0+0 W0+0 R0+0 B0", "do x++; while (x < 3);": "R0+0 W0+0 R0+0 B1 R0+0 W0+0 R0+0 B0", "for (int i = 0; i < 2; i++) t[i];": "B1 R1+0 B1 R1+4 B0", "for (x = 2; x; x--) ;": "W0+0 R0+0 B1 R0+0 W0+0 R0+0 B1 R0+0 W0+0 R0+0 B0", "for (;;) break;": "", "for (;;) { if (x) break; }": "R0+0 B1",
		// A switch tests its values up to the one that matches; its default isn't tested.
		"switch (x) { case 0: case 5: ; case 1: case 2: ; case 3: ; }": "R0+0 B0 B0 B1", "switch (x) { default: case 1: ; }": "R0+0 B1", "switch (x) { default: ; case 2: case 3: ; }": "R0+0 B0 B0", "switch (x) { case 2: ; }": "R0+0 B0", "switch (x) { default: ; }": "R0+0", "switch (x) { }": "R0+0", "switch (t[1]) { case 4: t[0]; default: t[1]; case 5: t[2]; case 6: t[3]; }": "R1+4 B0 B1 R1+8 R1+12", "switch (t[1]) { case 4: t[0]; default: t[1]; case 6: t[2]; }": "R1+4 B0 B0 R1+4 R1+8",
		// The read of a copy comes first.
		"y = z;": "R2+0 W3+0", "struct s w = z;": "R2+0 W6+0", "struct s w = z; struct s v; v = w; y = v;": "R2+0 W6+0 R6+0 W7+0 R7+0 W3+0", "struct s *p = &y; *p = *&z; p->b;": "R2+0 W3+0 R3+4", "y = y;": "R3+0 W3+0",
		// Locals in memory are objects, in order, and so are parameters.
		"int a = 1; int b = 2; int c = 3; int *p = &b; *p = a; c = b;": "W6+0 W6+0 R6+0", "int a; int b; a = 1; b = 2; &b; &a;": "W6+0 W7+0", "f(x);": "R0+0", "g(x);": "R0+0 W6+0 R6+0", "g(g(x));": "R0+0 W6+0 R6+0 W7+0 R7+0", "int a[1]; g(5); a[0] = g(6);": "W7+0 R7+0 W8+0 R8+0 W6+0", "int a[1]; a[0] = 1; g(a[0]); a[0];": "W6+0 R6+0 W7+0 R7+0 R6+0", "h(); h();": "W6+0 R6+0 W7+0 R7+0 R6+0 W8+0 R8+0 W9+0 R9+0 R8+0",
		// A call through a pointer is shown ahead of its arguments.
		"int (*r)(int) = f; r(x); (&f)(x); f(x);": "C0 R0+0 R0+0 R0+0", "(x ? f : g)(t[0]);": "R0+0 B1 C0 R1+0", "int (*r)(int) = f; r(r(x));": "C0 C0 R0+0",
		"if (k) ; k = x; k++;": "R4+0 B0 R0+0 W4+0 R4+0 W4+0", "n = &x; *n = 5; n = n + 0; int **p = &n; **p;": "W5+0 R5+0 W0+0 R5+0 W5+0 R5+0 R0+0",
	} {
		shows(t, globals+funcs+body(statements+" return 0;"), "", api.OK, leaks)
	}
	// Where the pointer lies in memory its read comes first.
	shows(t, globals+funcs+"int (*q)(int) = g; "+body("q(x); return 0;"), "", api.OK, "R6+0 C1 R0+0 W7+0 R7+0")
}

// TestStuck looks at where a run gets stuck: what comes later isn't shown, nor written.
func TestStuck(t *testing.T) {
	// x is object 0, t 1, u 2, z 3, k 4, n 5, c 6, w 7, e 8, l 9; the locals in memory begin with 10.
	const globals = "int x = 1; int t[4] = {4, 5, 6, 7}; int u[4]; struct s { int a; secret int b; int *c; int d; }; struct s z = {1, 2}; secret int k; int *n; char c[16]; int *gone() { int a = 1; return &a; } int *old() { int a[3]; a[0] = 1; return a; } int f(int a) { return a; } struct s *w; struct r { int a; }; struct r e[4]; struct v { struct r a[2]; secret int k[2]; }; struct v l; "
	for statements, leaks := range map[string]string{
		// Places that don't exist, other contents, other labels.
		"*n;": "R5+0 R0+0", "*n = x;": "R5+0 R0+0 W0+0", "*n += x;": "R5+0 R0+0", "t[4];": "R1+16", "t[4] = x;": "R0+0 W1+16", "t[4]++;": "R1+16", "int *p = &t[4]; *p;": "R1+16",
		"*&z.d; int *p = &z.a; p[1];": "R3+16 R3+4", "int *p = &z.a; p[1] = x;": "R0+0 W3+4", "int *p = &z.a; p[2];": "R3+8", "int *p = &z.a; p[3];": "R3+12", "secret int *p = &k; p[1];": "R4+4",
		"int **p = &z.c; p[1];": "R3+16", "int **p = &z.c; p[1] = p[2];": "R3+24", "int **p = &z.c; p[-1] = p[0];": "R3+8 W3+0", "int a[2]; a[0] = x; a[1] += a[0];": "R0+0 W10+0 R10+4", "int a[2]; a[x];": "R0+0 R10+4", "int a[2]; if (a[1]) x;": "R10+4",
		// Pointers that leave their objects, go too far, or are no locations.
		"t + 5; x;": "", "t - 1; x;": "", "5 + t;": "", "t[x + 4];": "R0+0", "t[-1] = x;": "", "&t[5];": "", "int *p = t + 4; p++;": "", "int *p = t; --p;": "", "int *p = t; p--;": "", "n++; x;": "R5+0", "n + 0; x;": "R5+0", "n += 0; x;": "R5+0", "n[0]; x;": "R5+0", "0[n]; x;": "R5+0", "n - 0;": "R5+0", "n - n; x;": "R5+0 R5+0", "&n[0];": "R5+0",
		"w->a;": "R7+0", "&w->a; x;": "R7+0", "(*w).d = x;": "R7+0", "&(*w).d;": "R7+0", "w = &z + 1; w->a;": "W7+0 R7+0 R3+24", "w = &z + 1; w->d;": "W7+0 R7+0", "&(&z + 1)->d;": "", "int *p = t; p += 5; x;": "", "int *p = &x; p + 2;": "", "int *p = &x; p + 1; p + 1 - 1; *(p + 1);": "R0+4",
		// Quotients.
		"x / (x - 1); x;": "R0+0 R0+0", "x % 0;": "R0+0", "x /= 0; x;": "R0+0", "x %= x - 1;": "R0+0 R0+0", "long l = -9223372036854775807 - 1; l / -x;": "R0+0", "long l = -9223372036854775807 - 1; l %= -1; x;": "", "t[x / 0] = x;": "R0+0", "unsigned u = 3; u / (u - 3);": "", "out(1 / (x - 1));": "R0+0",
		// Comparisons and differences.
		"t < u; x;": "", "t == u;": "", "t != u;": "", "u >= t;": "", "t <= &x;": "", "u - t; x;": "", "&x == t;": "", "n < t;": "R5+0", "t > n;": "R5+0", "n <= n;": "R5+0 R5+0", "n >= t;": "R5+0", "if (t == u) x;": "", "t == u && x;": "",
		"struct s *p = &z; &p->d - t;": "", "int *p = &z.d; struct s *q = &z; p - &q->a; struct s v[2]; &v[1].d - &v[0].d; x; &v[1] - &v[0]; n - t;": "R0+0 R5+0", "t - n;": "R5+0",
		// Pointers whose object has been dropped.
		"int *p = gone(); *p; x;": "W10+0 R10+0", "int *p = gone(); *p = x;": "W10+0 R0+0 W10+0", "int *p = gone(); p + 0; x;": "W10+0", "int *p = gone(); p++;": "W10+0", "int *p = gone(); if (p) x;": "W10+0", "int *p = gone(); p && x;": "W10+0", "int *p = gone(); x && p;": "W10+0 R0+0 B1", "int *p = gone(); !p;": "W10+0", "int *p = gone(); p ? x : x;": "W10+0", "int *p = gone(); while (p) x;": "W10+0", "int *p = gone(); do x; while (p);": "W10+0 R0+0", "int *p = gone(); for (; p;) x;": "W10+0", "int *p = gone(); p == 0;": "W10+0", "int *p = gone(); 0 != p;": "W10+0", "int *p = gone(); p == p;": "W10+0", "int *p = gone(); p <= p;": "W10+0", "int *p = gone(); p - p;": "W10+0", "int *p = gone(); p == n;": "W10+0 R5+0", "int *p = gone(); n != p;": "W10+0 R5+0", "int *p = gone(); p == t;": "W10+0", "int *p = gone(); t - p;": "W10+0", "int *p = old(); p[1];": "W10+0", "int *p = old(); *p;": "W10+0 R10+0", "gone() == gone();": "W10+0 W11+0",
		"int *p = gone(); n = p; z.c = n; n == 0;": "W10+0 W5+0 R5+0 W3+8 R5+0",
		// Copies, of which both accesses are shown.
		"z = *w; x;": "R7+0 R0+0 W3+0", "*w = z; x;": "R7+0 R3+0 W0+0", "*w = *w;": "R7+0 R7+0 R0+0 W0+0", "struct s a[2]; a[1] = a[2];": "R10+48 W10+24", "struct s a[1]; struct s *p = a + 1; *p = z;": "R3+0 W10+24", "struct s a = *w;": "R7+0 R0+0 W10+0", "e[1] = e[0]; x;": "R8+0 W8+4", "e[2] = e[0]; e[3] = e[2]; x;": "R8+0 W8+8 R8+8 W8+12", "struct r *p = l.a; p[2] = p[0];": "R9+0 W9+8", "struct r *p = l.a; p[0] = p[2];": "R9+8 W9+0", "struct s *p = &z; p[0] = p[1];": "R3+24 W3+0", "struct s *p = &z; p[1] = p[0];": "R3+0 W3+24",
		// What follows in the same expression, statement or call isn't evaluated.
		"f(t[4]) + x;": "R1+16", "f(1 / 0) + x;": "", "x + f(1 / (x - 1)) + x;": "R0+0 R0+0", "t[0] = *n = x;": "R5+0 R0+0 W0+0", "for (;; x) t[4];": "R1+16", "while (x) { t[4]; x; }": "R0+0 B1 R1+16", "switch (t[4]) { case 0: x; default: x; }": "R1+16", "!(1 / 0) || x;": "", "do { 1 / 0; } while (!x);": "", "!(1 / 0) ? x : x;": "",
	} {
		source := globals + body(statements+" x; out(9); return 0;")
		shows(t, source, "", api.ErrStuck, leaks)
		if r := walked(t, source, ""); len(r.Out) > 0 || r.Exit != 0 {
			t.Errorf("%s: returns %d and writes %s", statements, r.Exit, numbers(r.Out))
		}
	}
}

// TestFunctionsAsPlaces: a pointer that was stored as one to a function isn't one to data, whatever the type by which it is read.
func TestFunctionsAsPlaces(t *testing.T) {
	// x is object 0, y 1; f is function 0, g 1.
	const globals = "int f() { return 5; } int g() { return 6; } struct s { int *p; int (*f)(); int (*g)(); int *n; }; struct s x = {0, f, g}; int y = 3; struct r { int a; struct r *b; int c; }; struct q { struct r *p; int (*f)(); int (*g)(); }; struct q z = {0, f, g}; "
	for statements, leaks := range map[string]string{
		"*q[2];": "R0+16 R1+0", "*q[1];": "R0+8 R0+0", "*q[2] = y;": "R0+16 R1+0 W1+0", "(*q[2])++;": "R0+16 R1+0", "q[2] + 0; y;": "R0+16", "q[2]++; y;": "R0+16", "q[2] == q[2]; y;": "R0+16 R0+16", "q[2] < q[0]; y;": "R0+16 R0+0", "q[2] - q[2];": "R0+16 R0+16", "q[2] == &y; y;": "R0+16", "q[1] == q[2]; y;": "R0+8 R0+16",
		"struct r **o = &z.p; o[1]->a; y;": "R2+8", "struct r **o = &z.p; *o[2] = *o[0]; y;": "R2+16 R2+0 R0+0 W1+0", "struct r **o = &z.p; *o[0] = *o[2]; y;": "R2+0 R2+16 R1+0 W0+0",
	} {
		shows(t, globals+body("int **q = &x.p; "+statements+" y; return 0;"), "", api.ErrStuck, leaks)
	}
	// As a condition it is not null, and it may be compared with null.
	for statements, leaks := range map[string]string{"if (q[2]) y;": "R0+16 B1 R1+0", "q[2] == 0; !q[1];": "R0+16 R0+8", "q[2] != q[0] && q[2];": "R0+16 R0+0 B1 R0+16 B1", "q[3] = q[2]; q[3] == 0 || y;": "R0+16 W0+24 R0+24 B0 R1+0 B1"} {
		shows(t, globals+body("int **q = &x.p; "+statements+" return 0;"), "", api.OK, leaks)
	}
}
