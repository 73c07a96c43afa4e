package check

import (
	"strings"
	"testing"

	"merlon/api"
)

// things are what most of the tests' sources name.
const things = `
struct s { int a; secret int b; int *q; int n[3]; struct s *next; secret char m[2]; };
struct r { int a; };
struct fit { char a[256]; };
struct big { char a[257]; };
secret int k; secret long kl; secret char kc; secret unsigned ku; secret short ks;
char c; unsigned char uc; short h; unsigned short uh; int x; unsigned u; long l; unsigned long ul;
int *p; int *p2; secret int *kp; void *v; void *v2; char *cp; int **pp;
int t[4]; secret int kt[4]; int tt[2][3]; int *pt[4]; secret int *kpt[4]; void *vt[2];
struct s z; struct s w; struct r o; struct s *zp; struct s zs[4]; struct fit e1; struct fit e2; struct big b1; struct big b2;
int (*fp)(int); int (*ft[4])(int); int (*fp2)(int, int *); void (*vp)();
int f(int a) { return a; }
int g(int a, int *b) { return a; }
void nothing() {}
secret int sf(secret int a) { return a; }
int *pf() { return p; }
`

// inMain is a source with those statements in its main.
func inMain(statements string) string { return things + "int main() { " + statements + " return 0; }" }

func short(s string) string {
	s = strings.TrimPrefix(s, things)
	if len(s) > 300 {
		return s[:140] + " .. " + s[len(s)-140:]
	}
	return s
}

// passes checks a source that must have no fault.
func passes(t *testing.T, s string) *Prog {
	t.Helper()
	p, f := Check(s)
	if f != (api.Fault{}) || p == nil {
		t.Fatalf("Check(%q): fault %d at %d: %q", short(s), int(f.Kind), f.At, short(s[min(f.At, len(s)):]))
	}
	return p
}

// failsAt checks that a source has that fault and nothing else.
func failsAt(t *testing.T, s string, kind api.Errno, at int) {
	t.Helper()
	if p, f := Check(s); f != (api.Fault{Kind: kind, At: at}) || p != nil {
		t.Errorf("Check(%q) has a program: %v, fault %d at %d, want %d at %d", short(s), p != nil, int(f.Kind), f.At, int(kind), at)
	}
}

// fails checks that a source has a fault where its mark @ stands. The mark isn't part of the source; without a fault there is none.
func fails(t *testing.T, marked string, kind api.Errno) {
	t.Helper()
	at := strings.Index(marked, "@")
	if (at < 0) != (kind == api.OK) {
		t.Fatalf("%q: a mark, or none, for fault %d", short(marked), int(kind))
	}
	if at < 0 {
		passes(t, marked)
		return
	}
	failsAt(t, marked[:at]+marked[at+1:], kind, at)
}

// A sample is a piece of a source, with the mark where its fault is, and the fault's kind.
type sample struct {
	text string
	kind api.Errno
}

// wholes checks sources; bodies checks statements in a main.
func wholes(t *testing.T, samples []sample) {
	t.Helper()
	for _, s := range samples {
		fails(t, s.text, s.kind)
	}
}

func bodies(t *testing.T, samples []sample) {
	t.Helper()
	for _, s := range samples {
		fails(t, inMain(s.text), s.kind)
	}
}

// mainOf is the main of a program that has those statements in it.
func mainOf(t *testing.T, statements string) (*Prog, *Fn) {
	t.Helper()
	p := passes(t, inMain(statements))
	return p, &p.Funcs[p.Main]
}

func TestExample(t *testing.T) {
	fails(t, "secret int k; int main() { @return k; }", api.ErrFlow)
}

func TestFaultsOfParse(t *testing.T) {
	wholes(t, []sample{
		{"int main() { return 0 @}", api.ErrParse},
		{"int x = y; int main() { return 0; } @`", api.ErrLex},
		{"int x[@0];", api.ErrConst},
		{"@", api.ErrMain},
	})
}

func TestProgram(t *testing.T) {
	p := passes(t, "struct s { char a; secret int b; }; char c; struct s z = {1, 2}; int n[3]; secret long k; char d; int g(int x, secret char *q) { long y; return 1; } struct s *main2() { return &z; } int main() { return 0; } void last() {}")
	if n, found := p.Table.Find("s"); n != 0 || !found || len(p.Table.Fields(0)) != 2 {
		t.Errorf("the table has no struct s: %v", p.Table)
	}
	want := []struct {
		name, show string
		at, size   int
		init       bool
	}{{"c", "char", 0, 1, false}, {"z", "struct s", 8, 8, true}, {"n", "int[3]", 16, 12, false}, {"k", "secret long", 32, 8, false}, {"d", "char", 40, 1, false}}
	if len(p.Globals) != len(want) {
		t.Fatalf("%d globals", len(p.Globals))
	}
	for i, w := range want {
		g := p.Globals[i]
		if g.Name != w.name || p.Table.Show(g.Type) != w.show || g.At != w.at || len(g.Data) != w.size || g.Init != w.init || g.Memory || len(g.Funcs) != 0 {
			t.Errorf("global %d: %+v, want %+v", i, g, w)
		}
		if !g.Init && strings.Trim(string(g.Data), "\x00") != "" {
			t.Errorf("global %d has bytes: %v", i, g.Data)
		}
	}
	if p.Data != 41 {
		t.Errorf("Data = %d, want 41", p.Data)
	}
	if p.Main != 2 {
		t.Errorf("Main = %d, want 2", p.Main)
	}
	shows := []string{"int(int,secret char*)", "struct s*()", "int()", "void()"}
	names := []string{"g", "main2", "main", "last"}
	for i, f := range p.Funcs {
		if f.Name != names[i] || p.Table.Show(f.Type) != shows[i] || f.Type.Kind != api.Func || f.Body == nil {
			t.Errorf("function %d: %q, %s", i, f.Name, p.Table.Show(f.Type))
		}
	}
	g := p.Funcs[0]
	if g.Params != 2 || len(g.Locals) != 3 || p.Funcs[2].Params != 0 {
		t.Errorf("g has %d parameters and %d locals", g.Params, len(g.Locals))
	}
}

func TestNoGlobals(t *testing.T) {
	if p := passes(t, "int main() { return 0; }"); p.Data != 0 || len(p.Globals) != 0 || p.Main != 0 || p.Table == nil {
		t.Errorf("%+v", p)
	}
}

func TestLocals(t *testing.T) {
	p := passes(t, "struct s { int a; }; int f(int a, int *b, int d) { int x; struct s z; { int y; y = *&x; } int t[2]; int *q; q = &z.a; q = &t[1]; q = &q[1]; q = &*q; &d; struct s *zp = &z; q = &zp->a; return x; } int g(int a) { return a; } int main() { return 0; }")
	want := []struct {
		name, show string
		memory     bool
	}{{"a", "int", false}, {"b", "int*", false}, {"d", "int", true}, {"x", "int", true}, {"z", "struct s", true}, {"y", "int", false}, {"t", "int[2]", true}, {"q", "int*", false}, {"zp", "struct s*", false}}
	got := p.Funcs[0].Locals
	if len(got) != len(want) {
		t.Fatalf("%d locals", len(got))
	}
	for i, w := range want {
		v := got[i]
		if v.Name != w.name || p.Table.Show(v.Type) != w.show || v.Memory != w.memory || v.At != 0 || v.Data != nil || v.Funcs != nil || v.Init {
			t.Errorf("local %d: %+v, want %+v", i, v, w)
		}
	}
	if l := p.Funcs[1].Locals; len(l) != 1 || l[0].Memory {
		t.Errorf("locals of g: %v", l)
	}
}

// The locals of one function don't tell of another one's: not by their numbers, names, bytes or addresses.
func TestLocalsApart(t *testing.T) {
	p := passes(t, "int f(int a) { long t[500]; int *q = &a; return *q; } int g(int a) { long t[500]; int b; return a + b; } int main() { return 0; }")
	if l := p.Funcs[1].Locals; len(l) != 3 || l[0].Memory || !l[1].Memory || l[2].Memory {
		t.Errorf("locals of g: %v", l)
	}
	wholes(t, []sample{{"int f(int a) { int b; return a; } int main() { return @b; }", api.ErrName}})
}

func TestOneAfterAnother(t *testing.T) {
	first := passes(t, inMain("x = 1;"))
	failsAt(t, "int x;", api.ErrMain, 0)
	second := passes(t, inMain("x = 1;"))
	if len(first.Globals) != len(second.Globals) || first.Table == second.Table || first.Data != second.Data {
		t.Error("two programs of one source differ, or share")
	}
}

// replaced puts a text in the place of the #.
func replaced(s, text string) string { return strings.Replace(s, "#", text, 1) }
