package walk

import (
	"slices"
	"strconv"
	"strings"
	"testing"

	"merlon/api"
)

// TestUnevenDifference: a difference must be a whole number of elements.
func TestUnevenDifference(t *testing.T) {
	const s = "struct s { char a[3]; }; struct r { struct s x[2]; char y; struct s z; } ; struct r x; "
	tells(t, s+body("out(&x.x[1] - &x.x[0]); out(x.x - (x.x + 2)); out(&x.z > x.x); return &x.z == x.x + 2;"), "", "1 -2 1", 0)
	shows(t, s+body("&x.z - x.x; return 0;"), "", api.ErrStuck, "")
	shows(t, s+body("x.x - &x.z; return 0;"), "", api.ErrStuck, "")
}

func TestCallsInProgress(t *testing.T) {
	const f = "int f(int n) { out(n); if (n > 1) f(n - 1); return n; } "
	for n, end := range map[string]api.Errno{"1": api.OK, "98": api.OK, "99": api.OK, "100": api.ErrLimit, "200": api.ErrLimit} {
		r := walked(t, f+body("f("+n+"); f("+n+"); return 3;"), "")
		most, _ := strconv.Atoi(n)
		want := int64(3)
		if end != api.OK {
			want = 0
		}
		if r.End != end || r.Exit != want || len(r.Out) != 2*min(most, 99) && end == api.OK || len(r.Out) != 99 && end != api.OK {
			t.Errorf("%s calls: ends with %d, returns %d, writes %d numbers", n, int(r.End), r.Exit, len(r.Out))
		}
	}
	// However many there are behind one another, and whichever way they end.
	tells(t, "int n; void g() { n++; } int h() { n++; return 1; } int (*p)() = h; int f() { for (int i = 0; i < 300; i++) { g(); h(); p(); } if (n > 1000) return 5; } int main() { f(); f(); return n; }", "", "", 1800)
	// The limit is that of calls through pointers, too. The one that is too many is shown, but doesn't begin: its parameter isn't written.
	r := walked(t, "int g; int (*p)(int) = f; int f(int n) { &n; g++; return p(n + 1); } int main() { return f(1); }", "")
	if r.End != api.ErrLimit || len(r.Leaks) != 99*6 || view(r.Leaks[len(r.Leaks)-3:]) != "R1+0 C0 R100+0" {
		t.Errorf("ends with %d, and %d observations, %s", int(r.End), len(r.Leaks), view(r.Leaks[max(0, len(r.Leaks)-12):]))
	}
	// Arguments are evaluated ahead of the call.
	r = walked(t, "int f(int n) { return f(n ? 1 / (100 - n) + n + 1 : 0); } int main() { return f(1); }", "")
	if r.End != api.ErrLimit {
		t.Errorf("ends with %d", int(r.End))
	}
	r = walked(t, "int f(int n) { return f(1 / (99 - n) * 0 + n + 1); } int main() { return f(1); }", "")
	if r.End != api.ErrStuck {
		t.Errorf("ends with %d", int(r.End))
	}
}

func TestNumbersWritten(t *testing.T) {
	for _, n := range []int{0, 1, 9999, 10000, 10001, 20000} {
		r := walked(t, body("for (int i = 0; i < "+strconv.Itoa(n)+"; i++) out(i); return 3;"), "")
		end, exit := api.OK, int64(3)
		if n > api.MaxOut {
			end, exit = api.ErrLimit, 0
		}
		if r.End != end || r.Exit != exit || len(r.Out) != min(n, api.MaxOut) {
			t.Errorf("%d numbers: ends with %d, returns %d, writes %d", n, int(r.End), r.Exit, len(r.Out))
		}
		for i, k := range r.Out {
			if k != int64(i) {
				t.Fatalf("number %d is %d", i, k)
			}
		}
	}
}

// programs are some that end in each way, of which the steps are counted.
func programs() []string {
	return []string{
		"int main() { return 7; }",
		"int x; secret int k; int t[2]; int main() { int i = 1; if (x < 1 && k == 0) t[i] = x; return t[0]; }",
		"struct s { char a[100]; int b; }; struct s x; struct s y; int f(int n) { int *p = &n; y = x; return n ? f(n - 1) + *p : 0; } int (*g)(int) = f; int main() { out(g(3)); for (int i = 0; i < 3; i++) { switch (i) { case 1: continue; case 0: out(5); default: out(i); } x = y; } return x.b; }",
		"int main() { int i = 0; while (i < 10) out(i++); return 1 / (i - 10); }",
		"int f(int n) { out(n); return f(n + 1); } int main() { return f(0); }",
		"int *n; int main() { out(1); if (n) out(2); *n = 4; return 0; }",
		"int main() { for (;;) out(1); }",
		"int main() { while (1) ; }", "int main() { for (;;) ; }", "int main() { do { } while (1); }", "int main() { for (;;) continue; }",
		"int t[3]; int main() { int *p = t; do { *p = p - t; out(*p++); } while (p != t + 4); return 1; }",
	}
}

// starts: whether the one list is the beginning of the other.
func starts[T comparable](part, whole []T) bool {
	return len(part) <= len(whole) && slices.Equal(part, whole[:len(part)])
}

// TestFuel: with more steps a run goes on in the same way.
func TestFuel(t *testing.T) {
	for _, source := range programs() {
		p := program(t, source)
		in := api.Input{Public: []byte{0, 0, 0, 0, 9}}
		whole := Run(p, in, 3000)
		last := Result{}
		for fuel := -2; fuel <= min(whole.Steps+3, 3000); fuel++ {
			r := Run(p, in, fuel)
			if r.Steps > max(fuel, 0) || !starts(r.Out, whole.Out) || !starts(r.Leaks, whole.Leaks) || !starts(last.Out, r.Out) || !starts(last.Leaks, r.Leaks) {
				t.Fatalf("%s with %d steps: %v, with %d %v", source, fuel, r, whole.Steps, whole)
			}
			last = r
			if fuel >= whole.Steps {
				if r.End != whole.End || r.Exit != whole.Exit || len(r.Out) != len(whole.Out) || len(r.Leaks) != len(whole.Leaks) || r.Steps != whole.Steps {
					t.Fatalf("%s with %d steps: %v, with 3000 %v", source, fuel, r, whole)
				}
				continue
			}
			if r.End != api.ErrFuel || r.Exit != 0 || r.Steps != max(fuel, 0) {
				t.Fatalf("%s with %d steps ends with %d after %d, returns %d", source, fuel, int(r.End), r.Steps, r.Exit)
			}
		}
	}
	if r := Run(program(t, programs()[0]), api.Input{}, -1<<63); r.End != api.ErrFuel || r.Steps != 0 {
		t.Errorf("with the least number: %v", r)
	}
	if r := Run(program(t, programs()[0]), api.Input{}, 1<<63-1); r.End != api.OK || r.Exit != 7 {
		t.Errorf("with the greatest number: %v", r)
	}
}

// TestSteps: each part takes from one step to ten.
func TestSteps(t *testing.T) {
	steps := func(globals, statements string) int {
		r := walked(t, globals+body(statements+" return 0;"), "")
		if r.End != api.OK {
			t.Fatalf("%s: ends with %d", statements, int(r.End))
		}
		return r.Steps
	}
	const globals = "int x; int t[4]; int (*g)() = f; struct s { char a[256]; }; struct s y; struct s z; struct r { char a[20]; }; struct r v; struct r w; int f() {} int h(int a) {} struct q { int a; struct q *b; }; struct q o; struct q *p; "
	none := steps(globals, "")
	// How many statements, expressions, lvalues, iterations, tests, calls and bytes each has at least, and at most.
	for _, a := range []struct {
		statements  string
		least, most int
	}{
		{";", 1, 1}, {"{}", 1, 1}, {"{ ; { ; } }", 4, 4}, {"int a;", 1, 1}, {"int a = 1;", 2, 3}, {"1;", 2, 2}, {"x;", 2, 3}, {"x = 1;", 4, 4}, {"x = x;", 4, 5}, {"x += 1;", 4, 5}, {"x++;", 3, 4}, {"1 + 2 * 3;", 6, 6}, {"-1;", 3, 3}, {"~x;", 3, 4}, {"!x;", 3, 4}, {"&x;", 3, 3}, {"(char) x;", 3, 4}, {"sizeof(int);", 2, 2},
		{"t[1];", 4, 6}, {"1[t];", 4, 6}, {"*t;", 3, 5}, {"t[1] = 2;", 6, 8}, {"o.a;", 3, 4}, {"o.b == 0;", 5, 6}, {"o.a = 1;", 5, 5}, {"p = &o; p->a;", 9, 10}, {"t + 1;", 4, 5}, {"t - t;", 4, 6},
		{"x && 1;", 3, 4}, {"1 && 2;", 4, 4}, {"0 || 0;", 4, 4}, {"1 || 2;", 3, 3}, {"1 ? 2 : 3;", 4, 4}, {"f;", 2, 2},
		{"if (1) ;", 3, 3}, {"if (0) ;", 2, 2}, {"if (0) ; else {}", 3, 3}, {"while (0) ;", 2, 2}, {"do ; while (0);", 3, 3}, {"for (;;) break;", 3, 5}, {"for (int i = 0; i < 9; i++) ;", 3 + 10*3 + 9*5, 4 + 10*6 + 9*6}, {"switch (1) {}", 2, 2}, {"switch (1) { case 0: case 2: ; case 1: ; case 4: break; }", 7, 7}, {"switch (7) { case 0: case 2: ; default: case 1: ; case 4: break; }", 8, 8},
		{"f();", 5, 5}, {"g();", 5, 6}, {"h(1);", 6, 6}, {"out(1);", 3, 4}, {"y = z;", 4 + 256, 4 + 256}, {"v = w;", 4 + 20, 4 + 20}, {"struct r u = w;", 3 + 20, 4 + 20}, {"*&v = *&w;", 8 + 20, 8 + 20},
	} {
		if n := steps(globals, a.statements) - none; n < a.least || n > 10*a.most {
			t.Errorf("%s takes %d steps, want %d to %d", a.statements, n, a.least, 10*a.most)
		}
	}
	if none < 4 || none > 50 {
		t.Errorf("main alone takes %d steps", none)
	}
}

// TestDeepExpressions: as deep as a source can be, in as many calls as there may be.
func TestDeepExpressions(t *testing.T) {
	for i, a := range []struct {
		before, part string
		n            int
		after        string
	}{
		{"struct s { struct s *p; int x; }; struct s z; struct s *f(int n) { z.p = &z; return n ? f(n - 1)", "->p", 5300, " : &z; } int main() { return f(98) == &z; }"},
		{"int f(int n) { return n ? f(n - 1)", "<1l", 2900, " : 1; } int main() { return f(98); }"},
		{"int f(int n) { return n ? f(n - 1)", "&&1", 2900, " : 1; } int main() { return f(98); }"},
		{"int f(int n) { return n ? f(n - 1)", "+1-1", 1450, " : 1; } int main() { return f(98); }"},
	} {
		p := program(t, a.before+strings.Repeat(a.part, a.n)+a.after)
		if r := Run(p, api.Input{}, 1<<30); r.End != api.OK || r.Exit != 1 && i != 1 {
			t.Errorf("%s: ends with %d, returns %d", a.part, int(r.End), r.Exit)
		}
	}
}

// TestSecrecy: two runs with the same public input and the same observations, which end with OK, tell the same.
func TestSecrecy(t *testing.T) {
	const globals = "secret int k; secret unsigned char l; secret short m[4]; int x; unsigned char y; struct s { int a; secret int b; int c; }; struct s z; int t[8]; secret int mix(secret int a, int b) { return a * b + k; } int pick(int n) { return t[n & 7]; } "
	for i, statements := range []string{
		"k = x; l += k; m[1] = l + x; out(x); return y;",
		"if (k > 100) x++; else t[0] = 1; out(t[0]); return x;",
		"x = 0; while (l > 3) { l -= 3; x++; } out(x); return 0;",
		"if (k & 1) out(1); else out(2); return y;",
		"switch (l & 3) { case 0: x = 1; break; case 1: x = 2; default: t[1]++; } out(x); out(t[1]); return x;",
		"secret int a = mix(k, x); a = a ? k : m[x & 3]; z.b = a; z.a = x; struct s w = z; out(w.a); if (a > 5000) return 1; return w.c;",
		"for (int i = 0; i < 4; i++) if (m[i] < 0 || l == i) out(i); return y;",
		"int i = 0; do { i++; k >>= 1; } while (k && i < 20); return i;",
		"if (k == 1 && l > 4) y = pick(x) + 3; return y;",
		"k ? t[0]++ : t[1]--; out(t[0]); return t[1];",
	} {
		source := globals + body(statements)
		p := program(t, source)
		m := mixer(i)
		told := map[string]string{}
		pairs := 0
		for range 400 {
			in := api.Input{Public: []byte{byte(m.below(2)), 0, 0, 0, byte(m.below(2))}}
			for range 4 {
				// Few values, so that many runs show the same.
				in.Secret = append(in.Secret, byte(m.below(3)), byte(m.below(3)*100), byte(m.below(2)), byte(m.below(2)))
			}
			r := Run(p, in, plenty)
			if r.End != api.OK {
				t.Fatalf("%s ends with %d", statements, int(r.End))
			}
			shown := string(in.Public) + view(r.Leaks)
			tells := numbers(r.Out) + " " + strconv.FormatInt(r.Exit, 10)
			before, found := told[shown]
			if found && before != tells {
				t.Fatalf("%s tells %s, and %s where it shows the same: %s", statements, tells, before, view(r.Leaks))
			}
			if found {
				pairs++
			}
			told[shown] = tells
		}
		if pairs < 10 {
			t.Errorf("%s: only %d pairs show the same", statements, pairs)
		}
	}
}
