package walk

import (
	"encoding/hex"
	"slices"
	"strconv"
	"strings"
	"testing"

	"merlon/api"
	"merlon/check"
)

// plenty is more steps than any program of the tests takes.
const plenty = 3000000

func program(t *testing.T, source string) *check.Prog {
	t.Helper()
	p, fault := check.Check(source)
	if fault.Kind != api.OK {
		t.Fatalf("%s: fault %d at %d: %s", source, int(fault.Kind), fault.At, source[fault.At:])
	}
	return p
}

// input reads two texts of hexadecimal digits.
func input(t *testing.T, public, secret string) api.Input {
	t.Helper()
	a, e := hex.DecodeString(strings.ReplaceAll(public, " ", ""))
	b, f := hex.DecodeString(strings.ReplaceAll(secret, " ", ""))
	if e != nil || f != nil {
		t.Fatal(public, e, secret, f)
	}
	return api.Input{Public: a, Secret: b}
}

// walked is the run of a program with public bytes.
func walked(t *testing.T, source, public string) Result {
	t.Helper()
	return Run(program(t, source), input(t, public, ""), plenty)
}

// view writes observations: B a branch and its way, R a read and W a write with the object and the offset, C a call and the function.
func view(leaks []api.Leak) string {
	words := []string{}
	for _, l := range leaks {
		a, b := strconv.FormatInt(l.A, 10), strconv.FormatInt(l.B, 10)
		switch {
		case l.Kind == api.LeakBranch && l.B == 0:
			words = append(words, "B"+a)
		case l.Kind == api.LeakCall && l.B == 0:
			words = append(words, "C"+a)
		case l.Kind == api.LeakLoad:
			words = append(words, "R"+a+"+"+b)
		case l.Kind == api.LeakStore:
			words = append(words, "W"+a+"+"+b)
		default:
			words = append(words, "?"+strconv.Itoa(l.Kind)+","+a+","+b)
		}
	}
	return strings.Join(words, " ")
}

func numbers(list []int64) string {
	words := []string{}
	for _, n := range list {
		words = append(words, strconv.FormatInt(n, 10))
	}
	return strings.Join(words, " ")
}

// tells checks that a program ends with OK, what it writes and what it returns.
func tells(t *testing.T, source, public, out string, exit int64) {
	t.Helper()
	if r := walked(t, source, public); r.End != api.OK || r.Exit != exit || numbers(r.Out) != out {
		t.Errorf("%s\nends with %d, returns %d and writes %s, want %d and %s", source, int(r.End), r.Exit, numbers(r.Out), exit, out)
	}
}

// shows checks how a program ends, and its observations.
func shows(t *testing.T, source, public string, end api.Errno, leaks string) {
	t.Helper()
	if r := walked(t, source, public); r.End != end || view(r.Leaks) != leaks {
		t.Errorf("%s\nends with %d and shows %s, want %d and %s", source, int(r.End), view(r.Leaks), int(end), leaks)
	}
}

func TestExample(t *testing.T) {
	tells(t, "int x; int main() { out(x + 1); return 7; }", "02", "3", 7)
}

func TestNoProgram(t *testing.T) {
	r := Run(nil, api.Input{Public: []byte{1}}, 100)
	if r.End != api.ErrArg || r.Exit != 0 || len(r.Out) != 0 || len(r.Leaks) != 0 || r.Steps != 0 {
		t.Errorf("Run(nil) = %v", r)
	}
	if b := Bytes(nil, api.Input{Public: []byte{1}}); len(b) != 0 {
		t.Errorf("Bytes(nil) = %v", b)
	}
}

func TestBytes(t *testing.T) {
	for i, a := range []struct{ source, public, secret, want string }{
		{"", "0102", "0304", ""},
		{"int x;", "01020304", "11", "01020304"},
		{"int x;", "0102", "11", "01020000"},
		{"int x;", "", "11", "00000000"},
		{"secret int x;", "01020304", "11", "11000000"},
		{"char a; secret short b; unsigned short c; secret char d; long e;", "01020304", "11121314", "01 1112 0203 13 0400000000000000"},
		{"char a[3]; secret char b[2][2]; short c[2];", "01020304050607080910", "1112131415", "010203 11121314 04050607"},
		// Integers alone take bytes: neither pointers nor what stands between fields.
		{"struct s { char a; int b; secret char c; int *p; secret short d; } ; struct s x[2]; char y;", "01020304050607080910111213", "81828384858687", "01000000 02030405 81000000 00000000 0000000000000000 8283 000000000000 06000000 07080910 84000000 00000000 0000000000000000 8586 000000000000 11"},
		{"int *p; char a; int (*f)(); char b;", "0102", "", "0000000000000000 01 0000000000000000 02"},
		// An initial value takes none.
		{"short a = 0x0102; short b; secret short c = 0x0304; secret short d;", "2122232425", "3132333435", "0201 2122 0403 3132"},
		{"int a = -2; char b;", "21", "", "feffffff 21"},
		{"char t[4] = {1, 2}; char u; int v = 0; char w;", "2122", "", "01020000 21 00000000 22"},
		{"struct s { char a; short b; int *p; secret char c; }; struct s x = {1, 2, 0, 3}; struct s y = {}; secret char z; char w;", "21", "31", "0100 0200 00000000 0000000000000000 03 00000000000000 000000000000000000000000000000000000000000000000 31 21"},
		{"int f() { return 1; } int (*p)() = f; int (*q[2])() = {0, f}; char a;", "21", "", "0000000000000000 00000000000000000000000000000000 21"},
	} {
		p := program(t, a.source+" int main() { return 0; }")
		in := input(t, a.public, a.secret)
		got := Bytes(p, in)
		if want := strings.ReplaceAll(a.want, " ", ""); hex.EncodeToString(slices.Concat(got...)) != want || len(got) != len(p.Globals) {
			t.Errorf("%d: Bytes = %x, want %s", i, got, a.want)
		}
		if again := input(t, a.public, a.secret); !slices.Equal(in.Public, again.Public) || !slices.Equal(in.Secret, again.Secret) {
			t.Errorf("%d: Bytes changed its input to %v", i, in)
		}
	}
}

func TestBytesAreNew(t *testing.T) {
	p := program(t, "int x = 5; char y[2]; int main() { return x; }")
	in := api.Input{Public: []byte{1, 2, 3}}
	for _, b := range Bytes(p, in) {
		for i := range cap(b) {
			b[:cap(b)][i] = 9
		}
	}
	if got := Bytes(p, in); !slices.Equal(got[0], []byte{5, 0, 0, 0}) || !slices.Equal(got[1], []byte{1, 2}) || in.Public[0] != 1 {
		t.Errorf("Bytes = %v of %v, after the first ones had been changed", got, in)
	}
	Run(program(t, "int x = 5; char y[2]; int main() { x = 7; y[0] = 3; return x; }"), in, plenty)
	if r := Run(p, in, plenty); r.Exit != 5 || in.Public[0] != 1 {
		t.Errorf("a second run returns %d, the input is %v", r.Exit, in)
	}
}

func TestInitialState(t *testing.T) {
	for _, a := range []struct {
		source, public, out string
		exit                int64
	}{
		{"unsigned char a; short b; int c = 7; long d; char e; int main() { out(a); out(b); out(c); out(d); out(e); return 0; }", "ff feff 0100000000000080 05", "255 -2 7 -9223372036854775807 5", 0},
		{"unsigned long a; unsigned int b; int main() { out(a); out(b); return 0; }", "ffffffffffffffff ffffffff", "-1 4294967295", 0},
		{"int t[3] = {5, 6}; int main() { return t[0] * 100 + t[1] * 10 + t[2]; }", "01020304", "", 560},
		{"struct s { char a; int b; short t[2]; }; struct s x; struct s y = {1, 2, {3}}; struct s z; int main() { out(x.a); out(x.b); out(x.t[1]); out(y.a); out(y.b); out(y.t[0]); out(y.t[1]); out(z.a); return 0; }", "0b 0c000000 0d00 0e00 0f", "11 12 14 1 2 3 0 15", 0},
		// Pointers are null, or the function stored there.
		{"int *p; int *q[2]; struct s { char a; int *r; }; struct s x; int main() { return (p == 0) + (q[0] == 0) * 2 + (q[1] == 0) * 4 + (x.r == 0) * 8 + !p * 16; }", "0102030405060708", "", 31},
		{"int *p = 0; int main() { return p ? 1 : 2; }", "", "", 2},
		{"int f(int x) { return x + 1; } int g(int x) { return x + 2; } struct s { char a; int (*h)(int); }; int (*p)(int) = g; int (*q[3])(int) = {f, 0, &g}; struct s x = {1, f}; int main() { out(p(10)); out(q[0](20)); out(q[2](30)); out(x.h(40)); out(q[1] == 0); return x.a; }", "", "12 21 32 41 1", 1},
		{"int main() { return f() + a; } int a = 4; int f() { return a * 2; }", "", "", 12},
	} {
		tells(t, a.source, a.public, a.out, a.exit)
	}
}

// TestSecretInput looks at secrets by branches: they can't be written.
func TestSecretInput(t *testing.T) {
	p := program(t, "char a; secret short k; secret unsigned char l; short b; secret int m = 9; secret int n; int main() { if (k == -2) ; if (l == 200) ; if (m == 9) ; if (n == 1) ; out(a); out(b); return 0; }")
	r := Run(p, input(t, "07 0800", "feff c8 01"), plenty)
	if want := "R1+0 B1 R2+0 B1 R4+0 B1 R5+0 B1 R0+0 R3+0"; view(r.Leaks) != want || numbers(r.Out) != "7 8" {
		t.Errorf("shows %s and writes %s, want %s and 7 8", view(r.Leaks), numbers(r.Out), want)
	}
}

// TestBetweenFields: nothing stands there until it is written.
func TestBetweenFields(t *testing.T) {
	const s = "struct s { char a; int b; }; struct s x; struct s y = {1, 2}; struct s z; "
	shows(t, s+"int main() { char *p = &x.a; return p[1]; }", "010203040506", api.ErrStuck, "R0+1")
	shows(t, s+"int main() { char *p = &y.a; return p[3]; }", "", api.ErrStuck, "R1+3")
	tells(t, s+"int main() { char *p = &x.a; p[1] = 7; return p[1] * 10 + p[0]; }", "01", "", 71)
	// A copy takes it along.
	shows(t, s+"int main() { char *p = &x.a; char *q = &z.a; p[1] = 7; q[2] = 5; z = x; out(q[1]); return q[2]; }", "", api.ErrStuck, "W0+1 W2+2 R0+0 W2+0 R2+1 R2+2")
}
