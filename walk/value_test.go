package walk

import (
	"testing"

	"merlon/api"
)

// body is a main function with these statements.
func body(statements string) string { return "int main() { " + statements + " }" }

func TestNumbers(t *testing.T) {
	for _, a := range []struct {
		statements, out string
		exit            int64
	}{
		{"return 0;", "", 0}, {"return -5;", "", -5}, {"return 2147483647;", "", 2147483647}, {"return 2147483648;", "", -2147483648}, {"out(4294967295u); out(9223372036854775808ul); out(-1l); return 1;", "4294967295 -9223372036854775808 -1", 1},
		{"out(7 / -2); out(7 % -2); out(-7 / 2); out(-7 % 2); out(7u / 2u); out(-1 / 2u); return 0;", "-3 1 -3 -1 3 2147483647", 0},
		{"out(1 << 31); out(1 << 33); out(1l << 33); out(-8 >> 1); out(-8 >> 33); out(4294967288u >> 1); out(1 << -1); return 0;", "-2147483648 2 8589934592 -4 -4 2147483644 -2147483648", 0},
		{"out(6 & 3); out(6 | 3); out(6 ^ 3); out(~6); out(-6); out(- -6); out(~0u); out(-1u); return 0;", "2 7 5 -7 -6 6 4294967295 4294967295", 0},
		{"out(2147483647 + 1); out(65536 * 65536); out(2147483647u + 1u); out(0u - 1u); out(2147483647l + 1); return 0;", "-2147483648 0 2147483648 4294967295 2147483648", 0},
		{"out(-1 < 0); out(-1 < 0u); out(-1 < 0l); out(3 > 2); out(2 >= 3); out(2 <= 2); out(2 == 2); out(2 != 2); out(-1 == 4294967295u); out(-1l > 1ul); return 0;", "1 0 1 1 0 1 1 0 1 1", 0},
		{"out((char) 200); out((unsigned char) -1); out((short) 70000); out((unsigned short) -1); out((int) 4294967297l); out((long) -1); out((unsigned int) -1); out((long) 4294967295u); out((unsigned long) -1); return 0;", "-56 255 4464 65535 1 -1 4294967295 4294967295 -1", 0},
		{"out(!0); out(!7); out(!!7); out(!-1l); out(0 && 1); out(2 && 4); out(0 || 0); out(0 || 9); return !(1 < 2);", "1 0 1 0 0 1 0 1", 0},
		{"out(1 ? 2 : 3); out(0 ? 2 : 3); out(1 ? -1 : 0u); out(0 ? 1l : -1); out(1 ? 0 ? 4 : 5 : 6); return 0;", "2 3 4294967295 -1 5", 0},
		{"out(sizeof(int)); out(sizeof(int *) - 9); out(1 + 2 * 3 - 4 / 2 % 3); return 0;", "4 -1 5", 0},
		{"char c = 127; c = c + 1; out(c); unsigned char d = 255; d = d + 2; out(d); short e = 40000; out(e); long f = 4294967295u; out(f); unsigned int g = -1; out(g); return d;", "-128 1 -25536 4294967295 4294967295", 1},
	} {
		tells(t, body(a.statements), "", a.out, a.exit)
	}
}

func TestExitType(t *testing.T) {
	for ret, exit := range map[string]int64{"char": -56, "unsigned char": 200, "short": 456, "int": 70000200, "unsigned": 70000200, "long": 5070000200, "unsigned long": 5070000200} {
		number := "200"
		switch ret {
		case "short":
			number = "65992"
		case "int", "unsigned":
			number = "70000200"
		case "long", "unsigned long":
			number = "5070000200"
		}
		tells(t, ret+" main() { return "+number+"; }", "", "", exit)
	}
	tells(t, "unsigned main() { return -1; }", "", "", 4294967295)
	tells(t, "unsigned long main() { return -1; }", "", "", -1)
}

func TestAssignments(t *testing.T) {
	for _, where := range []string{"", "long *h = &l; unsigned char *i = &c; int *j = &x; "} {
		for _, a := range []struct{ statements, out string }{
			{"out(x = 5); out(x); out(c = 300); out(c); out(l = -1); out(x = c = 257); out(x);", "5 5 44 44 -1 1 1"},
			{"x = 7; out(x += 3); out(x -= 12); out(x *= -7); out(x /= 4); out(x %= 2); out(x |= 12); out(x &= 10); out(x ^= 3); out(x <<= 29); out(x >>= 28); out(x);", "10 -2 14 3 1 13 8 11 1610612736 6 6"},
			// The operator is reckoned in the common type, and the result becomes one of the lvalue's.
			{"c = 200; out(c += 100); out(c); out(c *= 300); out(c /= -2); out(c -= 234); out(c <<= 9); c = 255; out(c >>= 1); out(c = c / 2u);", "44 44 144 184 206 0 127 63"},
			{"x = -1; out(x /= 2u); x = -1; out(x >>= 1); x = -7; out(x %= 4l); x = 1; out(x += 4294967296l); out(x += 4294967296ul * 3 + 2); x = -8; out(x >>= 1ul);", "2147483647 -1 -3 1 3 -4"},
			{"x = 1; out(x <<= 33); out(x <<= -1); l = 1; out(l <<= 33); out(l >>= 65); c = 1; out(c <<= 8); c = 1; out(c <<= 40);", "2 0 8589934592 4294967296 0 0"},
			{"x = 5; out(x++); out(x); out(++x); out(x--); out(--x); out(x);", "5 6 7 7 5 5"},
			{"c = 255; out(c++); out(c); out(c--); out(c); out(++c); out(--c); l = 9223372036854775807; out(l++); out(l); out(--l); x = 2147483647; out(++x); out(x--); out(x);", "255 0 0 255 0 255 9223372036854775807 -9223372036854775808 9223372036854775807 -2147483648 -2147483648 2147483647"},
			{"int y = 3; out(x = y += y); out(x + (y = 2) * y); int z = x; out(z); x = (y = 4) + (z = 5); out(x);", "6 10 6 9"},
		} {
			tells(t, body("int x; unsigned char c; long l; "+where+a.statements+" return 0;"), "", a.out, 0)
		}
	}
}

func TestPointers(t *testing.T) {
	for _, a := range []struct {
		globals, statements, out string
	}{
		{"int t[4] = {1, 2, 3, 4};", "int *p = t; out(*p); out(p[3]); out(3[p]); out(*(p + 2)); out(*(1 + p)); p += 3; out(*p); p -= 2; out(*p); out(p[-1]); out(*p++); out(*p--); out(*++p); out(*--p); out(p - t); out(t - p); out(&t[4] - t);", "1 4 4 3 2 4 2 1 2 3 3 2 1 -1 4"},
		{"long t[3]; struct s { char a; int b[2]; }; struct s x[3];", "out(&t[2] - t); out(&x[2] - x); out(&x[1].b[1] - &x[1].b[0]); struct s *p = x; p++; p->b[1] = 5; out(x[1].b[1]); out(p - x); (*p).a = 3; out(x[1].a); int (*z)() = 0; out(z == 0);", "2 2 1 5 1 3 1"},
		// Places within one object, also just behind it, are compared by their offsets.
		{"int t[4];", "int *p = t + 1; int *q = t + 4; out(p < q); out(p > q); out(p <= q); out(p >= q); out(p == q); out(p != q); out(p == t + 1); out(p <= p); out(q - 3 == p);", "1 0 1 0 0 1 1 1 1"},
		{"int t[4]; int *n; int f() { return 0; } int (*g)() = f; int (*h)();", "int *p = t; out(p == 0); out(p != 0); out(0 == p); out(0 != p); out(p == n); out(p != n); out(n == p); out(n == n); out(n != n); out(n == 0); out(n != 0); out(g == 0); out(g != 0); out(h == 0); out(!g); out(!h); out(!p); out(!n); out(p && n); out(p || n); out(g ? 1 : 2); out(f == 0);", "0 1 0 1 0 1 0 1 0 1 0 0 1 1 0 1 0 1 0 1 1 0"},
		{"int t[4]; int *n;", "int x; out(&x == 0); int *p = 1 ? t : 0; int *q = 0 ? t : 0; out(p == t); out(q == 0); if (p) out(1); if (q) out(2); while (p && p < t + 3) p++; out(p - t); out(&*n == 0); out((n = p) == t + 3);", "0 1 1 1 3 1 1"},
		{"int t[2][3] = {{1, 2, 3}, {4, 5, 6}};", "out(t[1][2]); out(*t[1]); out(**t); int *p = t[1]; out(p[-1]); out(&t[1] - &t[0]); out((&t[0][0] + 5)[0]); out(p == &t[1][0]); out(&t[0][3] == p);", "6 4 1 3 1 6 1 1"},
		{"struct s { int a; struct s *next; }; struct s x; struct s y;", "x.a = 1; y.a = 2; x.next = &y; y.next = &x; out(x.next->a); out(x.next->next->a); out(x.next->next->next->next == &x); struct s *p = &x; p->next->a += 5; out(y.a); int **q; int *r = &y.a; q = &r; **q = 9; out(y.a);", "2 1 1 7 9"},
		// A pointer into one field reaches the next ones.
		{"struct s { int a; int b; int *c; int *d; }; struct s x;", "int *p = &x.a; p[1] = 4; out(x.b); x.a = 3; int **q = &x.c; q[1] = p; out(*x.d); x.a = 6; out(*x.d);", "4 3 6"},
		{"char t[8]; long l;", "t[0] = 1; t[3] = 2; out(*&t[3]); char *p = t + 8; out(p - t); p = p - 8; out(*p); l = -1; p = t + 4; out(p[l]);", "2 8 1 2"},
		{"int x = 4; int *p = 0; int **q = 0;", "p = &x; q = &p; **q = 5; out(x); int y = 6; *q = &y; out(*p); *p = 7; out(y); out(*&*&y);", "5 6 7 7"},
	} {
		tells(t, a.globals+" "+body(a.statements+" return 0;"), "", a.out, 0)
	}
}

// TestFarMoves: by more than MaxData elements no pointer is moved, however small they are.
func TestFarMoves(t *testing.T) {
	// All data that there may be, in elements of one byte.
	const c = "char x[8][4096]; "
	tells(t, c+"int main() { char *p = x[0]; p = p + 32768; out(p - x[0]); p = p - 32768; p += 32768; p -= 32768; p = -32768 + (p + 32768); return p == x[0]; }", "", "32768", 1)
	for _, far := range []string{"p + 32769", "p - 32769", "p + 4294967296", "p + 9223372036854775807", "p - 9223372036854775807", "p - 9223372036854775808", "p + 9223372036854775808ul", "p + 4611686018427387904", "p - -9223372036854775807", "32769 + p", "p += 32769", "p -= 2147483648", "&p[32769]", "p + -1", "p += -1", "p - 1", "--p", "p--"} {
		shows(t, c+"int main() { char *p = x[0]; "+far+"; return 0; }", "", api.ErrStuck, "")
	}
	// A product that is small again is far all the same.
	for _, far := range []string{"p + 4611686018427387904", "p + 2305843009213693952", "p - 4611686018427387904", "p += 4611686018427387904", "p + 9223372036854775808ul", "p[4611686018427387904]"} {
		shows(t, "long t[2]; int main() { long *p = t; "+far+"; return 0; }", "", api.ErrStuck, "")
	}
}

func TestStructs(t *testing.T) {
	const s = "struct s { char a; int b[2]; struct s *p; }; struct s x; struct s y[2]; "
	for _, a := range []struct{ statements, out string }{
		{"x.a = 1; x.b[0] = 2; x.b[1] = 3; x.p = &x; y[1] = x; out(y[1].a); out(y[1].b[0] + y[1].b[1]); out(y[1].p == &x); x.a = 9; out(y[1].a); out(y[0].a);", "1 5 1 1 0"},
		{"x.a = 4; struct s z = x; out(z.a); z.a = 5; out(x.a); x = z; out(x.a); x = x; out(x.a); struct s *p = &z; p->a = 6; x = *p; out(x.a); y[1] = *p; *(y + 0) = y[1]; out(y->a);", "4 4 5 5 6 6"},
		// What contains nothing is copied as nothing.
		{"struct s z; z.a = 1; x = z; out(x.a); struct s w = x; out(w.a); z.a = 2; z.b[1] = 3; w = z; out(w.b[1]);", "1 1 3"},
	} {
		tells(t, s+body(a.statements+" return 0;"), "", a.out, 0)
	}
	shows(t, s+body("struct s z; z.a = 1; x = z; return x.b[0];"), "", api.ErrStuck, "W2+0 R2+0 W0+0 R0+4")
}
