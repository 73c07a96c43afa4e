package walk

import (
	"testing"

	"merlon/api"
)

func TestStatements(t *testing.T) {
	for _, a := range []struct{ statements, out string }{
		{";; {} { out(1); { out(2); ; } }", "1 2"},
		{"if (1) out(1); if (0) out(2); if (0) out(3); else out(4); if (2) out(5); else out(6); if (0) ; else if (1) out(7); else out(8);", "1 4 5 7"},
		{"int i = 0; while (i < 3) out(i++); while (0) out(9); while (1) { if (i++ == 4) continue; if (i > 7) break; out(i); }", "0 1 2 4 6 7"},
		{"int i = 0; do out(i++); while (i < 3); do out(9); while (0); do { if (i == 4) continue; if (i == 6) break; out(i); } while (i++ < 8);", "0 1 2 9 3 5"},
		{"int i; for (i = 0; i < 3; i++) out(i); for (int j = 5; j; j -= 2) { if (j == 3) continue; if (j < 0) break; out(j); } for (; i < 5;) out(i++); for (;;) { if (i > 6) break; i++; } out(i);", "0 1 2 5 1 3 4 7"},
		{"for (int i = 0; i < 3; i++) { for (int j = 0; j < 3; j++) { if (j == 1) continue; if (i == 1) break; out(i * 10 + j); } if (i == 1) out(77); }", "0 2 77 20 22"},
		{"for (int i = 0; i < 6; i++) switch (i) { case 0: out(100); case 1: out(101); break; case 3: case 4: out(103); default: out(109); case 2: out(102); }", "100 101 101 102 103 109 102 103 109 102 109 102"},
		{"for (int i = 0; i < 4; i++) { switch (i) { case 1: continue; case 2: { break; } default: out(i); } out(i * 10); }", "0 0 20 3 30"},
		{"for (int i = 0; i < 3; i++) switch (i) { default: case 7: out(i); break; case 1: while (1) { break; } out(50); }", "0 50 2"},
		{"switch (4) { } switch (4) { case 3: out(3); } switch (4) { default: } switch (4) { case 1: default: out(1); } out(2);", "1 2"},
		{"switch (5) { case 1: out(1); default: out(2); case 3: out(3); break; case 4: out(4); }", "2 3"},
		// The values are those of the promoted type.
		{"unsigned char c = 200; switch (c) { case -56: out(1); break; case 200: out(2); } char d = 200; switch (d) { case 200: out(1); break; case -56: out(3); }", "2 3"},
		{"switch (4294967295u) { case -1: out(1); } switch (-1) { case 4294967295: out(2); } switch (-1l) { case 4294967295: out(3); break; case -1: out(4); } switch (0ul - 1) { case -1: out(5); }", "1 2 4 5"},
		{"1 + 2; int x = 3; x; &x; x == 3; int t[2]; t; -x; x ? 1 : 2; out(x);", "3"},
	} {
		tells(t, body(a.statements+" return 0;"), "", a.out, 0)
	}
}

func TestReturns(t *testing.T) {
	const f = "int f(int n) { while (1) { for (;;) switch (n) { case 0: return 5; case 1: do { { if (n) return 6; } } while (1); default: n -= 2; } } } "
	tells(t, f+body("out(f(0)); out(f(1)); out(f(2)); out(f(7)); return 3; out(9);"), "", "5 6 5 6", 3)
	// Without a return a result is 0, or null.
	tells(t, "int a() {} char b() { 5; } int *c() { int x = 3; } void d() {} void e(int x) { if (x) return; out(x); } unsigned long g(int x) { if (x) return 7; } "+body("out(a()); out(b()); out(c() == 0); out(!c()); if (c()) out(1); d(); e(0); e(1); out(g(1)); out(g(0)); int *p = c(); out(p == 0);"), "", "0 0 1 1 0 7 0 1", 0)
	tells(t, "long main() { out(1); }", "", "1", 0)
	tells(t, "secret int k; secret int f() { return k; } secret int g() { } int main() { if (f() == 3) ; if (g() == 0) ; return 0; }", "", "", 0)
	// What was returned earlier isn't a later call's result.
	tells(t, "int f(int n) { if (n) return n; } int main() { return f(5) * 10 + f(0); }", "", "", 50)
}

// TestUninitialized: declarations without an initial value make it so, each time.
func TestUninitialized(t *testing.T) {
	for _, a := range []struct{ declared, x string }{{"int x;", "x"}, {"int x; int *p = &x;", "x"}, {"int t[1];", "t[0]"}, {"struct s z;", "z.a"}} {
		source := "struct s { int a; }; int main() { for (int i = 0; i < 3; i++) { " + a.declared + " if (i != 1) " + a.x + " = i; out(" + a.x + "); } return 0; }"
		if r := walked(t, source, ""); r.End != api.ErrStuck || numbers(r.Out) != "0" {
			t.Errorf("%s: ends with %d and writes %s", source, int(r.End), numbers(r.Out))
		}
		// A declaration that a switch goes past does nothing.
		source = "struct s { int a; }; int main() { for (int i = 0; i < 3; i++) switch (i) { case 0: ; " + a.declared + " " + a.x + " = 5; break; default: out(" + a.x + "); " + a.x + "++; } return 0; }"
		tells(t, source, "", "5 6", 0)
	}
	for _, statements := range []string{
		"int x; return x;", "int x; x++; return 0;", "int x; x += 1; return 0;", "int x; x; return 0;", "int x; if (x) ; return 0;", "int x; out(x); return 0;", "int x = x1(); return 0;",
		"int *p; return p == 0;", "int *p; return *p;", "int *p; p; return 0;", "int (*g)(); return g();", "int t[2]; t[0] = 1; return t[1];", "struct s z; return z.a;", "struct s z; z.b; return 0;", "struct s z; z.p; return 0;",
		"char c; int x; *&c = 1; return *&c + *&x;", "{ int x = 1; } { int y; return y; }", "int x; switch (0) { case 1: x = 1; default: return x; }", "for (int i = 0; i < 2; i++) { int x; if (i) return x; x = 3; } return 0;",
	} {
		if r := walked(t, "struct s { char a; int b; int *p; }; int x1() { int y; return y; } "+body(statements), ""); r.End != api.ErrStuck {
			t.Errorf("%s: ends with %d", statements, int(r.End))
		}
	}
	// Each call has locals of its own, which begin without a value.
	const twice = "int f(int n) { int x; int t[1]; if (n) { x = 1; t[0] = 2; return x + t[0]; } return "
	for _, read := range []string{"x", "t[0]"} {
		if r := walked(t, twice+read+"; } int main() { out(f(1)); return f(0); }", ""); r.End != api.ErrStuck || numbers(r.Out) != "3" {
			t.Errorf("%s: ends with %d and writes %s", read, int(r.End), numbers(r.Out))
		}
	}
	// Only what is read needs a value.
	tells(t, "struct s { char a; int b; }; int main() { int x; int t[3]; struct s z; int *p = &x; struct s y; z.a = 1; y = z; t[1] = 4; t; &t[2]; return y.a + t[1]; }", "", "", 5)
}

func TestCalls(t *testing.T) {
	for _, a := range []struct {
		source, out string
		exit        int64
	}{
		{"int f(int n) { return n < 2 ? n : f(n - 1) + f(n - 2); } int main() { return f(12); }", "", 144},
		{"int even(int n) { return n ? odd(n - 1) : 1; } int odd(int n) { return n ? even(n - 1) : 0; } int main() { return even(50) * 10 + even(51); }", "", 10},
		{"int six(char a, short b, int c, long d, unsigned char e, int *f) { return a + b + c + d + e + *f; } int main() { int x = 6; return six(257, 65538, 3, 4, 261, &x); }", "", 21},
		{"void swap(int *p, int *q) { int x = *p; *p = *q; *q = x; } int main() { int a = 1; int b = 2; swap(&a, &b); return a * 10 + b; }", "", 21},
		{"int f(int x) { x += 1; int *p = &x; *p *= 2; return x; } int main() { int x = 5; out(f(x)); return x; }", "12", 5},
		{"int add(int x, int y) { return x + y; } int sub(int x, int y) { return x - y; } int use(int (*f)(int, int), int x) { return f(x, 3); } int main() { int (*g)(int, int) = sub; out(use(add, 10)); out(use(g, 10)); out((&add)(1, 2)); g = &add; out(g(4, 4)); out((g == 0 ? sub : g)(9, 1)); return 0; }", "13 7 3 8 10", 0},
		{"struct s { int a; int (*f)(struct s *); }; int get(struct s *p) { return p->a; } struct s x = {4, get}; int main() { struct s y = x; y.a = 5; return x.f(&x) * 10 + y.f(&y); }", "", 45},
		{"int n; int main() { n++; if (n < 5) main(); return n; }", "", 5},
		{"int t[2] = {1, 2}; int *f() { return t; } int main() { *f() = 7; f()[1] = 8; return t[0] * 10 + t[1]; }", "", 78},
		{"struct s { int a; int b; }; struct s x; struct s *f() { return &x; } int main() { f()->a = 3; (*f()).b = 4; struct s y = *f(); return y.a * 10 + y.b; }", "", 34},
		{"int f(int out) { return out + 1; } int main() { out(f(3)); return 0; }", "4", 0},
	} {
		tells(t, a.source, "", a.out, a.exit)
	}
}

// TestCallsThroughOtherTypes: what is called must have the type that the pointer's type says.
func TestCallsThroughOtherTypes(t *testing.T) {
	// The grammar has no pointer to a pointer to a function: a struct behind another one stands for it.
	const two = "struct r { int (*a)(int); }; struct q { long (*a)(int); int (*b)(int); int (*c)(secret int); int *d; int (*n)(int); }; struct w { struct r r; struct q q; }; int f(int x) { return x + 1; } long g(int x) { return x + 2; } int h(secret int x) { return 3; } int y; struct w x = {{f}, {g, f, h, 0, 0}}; "
	for _, c := range []struct {
		i    string
		end  api.Errno
		exit int64
		show string
	}{
		{"0", api.OK, 6, "R1+0 C0"}, {"1", api.ErrStuck, 0, "R1+8"}, {"2", api.OK, 6, "R1+16 C0"}, {"3", api.ErrStuck, 0, "R1+24"}, {"4", api.ErrStuck, 0, "R1+32"}, {"5", api.ErrStuck, 0, "R1+40"},
	} {
		source := two + "int main() { struct r *p = &x.r; return p[" + c.i + "].a(5); }"
		shows(t, source, "", c.end, c.show)
		if r := walked(t, source, ""); r.Exit != c.exit {
			t.Errorf("%s: returns %d", source, r.Exit)
		}
	}
	shows(t, two+"int main() { x.q.d = &y; struct r *p = &x.r; return p[4].a(5); }", "", api.ErrStuck, "W1+32 R1+32")
	// Neither arguments nor the call come behind what is no such function.
	shows(t, two+"int main() { struct r *p = &x.r; return p[5].a(y); }", "", api.ErrStuck, "R1+40")
}
