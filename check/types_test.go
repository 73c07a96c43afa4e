package check

import (
	"strings"
	"testing"

	"merlon/api"
)

const end = " int main() { return 0; }"

func ended(samples []sample) []sample {
	for i := range samples {
		samples[i].text += end
	}
	return samples
}

func TestTypesOfDeclarations(t *testing.T) {
	for text, want := range map[string]string{
		"char a;": "char", "short a;": "short", "int a;": "int", "long a;": "long",
		"unsigned char a;": "unsigned char", "unsigned short a;": "unsigned short", "unsigned a;": "unsigned int", "unsigned int a;": "unsigned int", "unsigned long a;": "unsigned long",
		"signed a;": "int", "signed char a;": "char",
		"secret int a;": "secret int", "secret unsigned long a;": "secret unsigned long", "public int a;": "int", "public unsigned char a;": "unsigned char",
		"int *a;": "int*", "secret char **a;": "secret char**", "void *a;": "void*", "public void *a;": "void*", "public struct r *a;": "struct r*",
		"int a[2][3];": "int[3][2]", "int *a[4][1];": "int*[1][4]", "struct s a;": "struct s", "struct r a[2];": "struct r[2]",
		"int (*a)();": "int()*", "void (*a)(void);": "void()*", "int *(*a)(int, secret char *);": "int*(int,secret char*)*",
		"secret long (*a[2][3])(long, struct s *);": "secret long(long,struct s*)*[3][2]",
	} {
		p := passes(t, "struct s { int a; }; struct r { char c; };"+text+end)
		if got := p.Table.Show(p.Globals[0].Type); got != want {
			t.Errorf("%q: %s, want %s", text, got, want)
		}
		p = passes(t, "struct s { int a; }; struct r { char c; }; int main() {"+text+"return 0; }")
		if got := p.Table.Show(p.Funcs[0].Locals[0].Type); got != want {
			t.Errorf("%q in a function: %s, want %s", text, got, want)
		}
	}
}

func TestFaultsOfTypes(t *testing.T) {
	wholes(t, ended([]sample{
		{"@struct n *a;", api.ErrName},
		{"@public struct n *a;", api.ErrName},
		{"@secret struct n *a;", api.ErrName},
		{"@secret void *a;", api.ErrType},
		{"struct s { int a; }; @secret struct s a;", api.ErrType},
		{"struct s { int a; }; @secret struct s *a;", api.ErrType},
		{"struct s { int a; }; public struct s a;", api.OK},
		{"void @a;", api.ErrType},
		{"void @a[2];", api.ErrType},
		{"void *a[2];", api.OK},
		{"@struct n (*a)(int);", api.ErrName},
		{"struct s { int a; }; @struct s (*a)(int);", api.ErrType},
		{"struct s { int a; }; @public struct s (*a)(int);", api.ErrType},
		{"struct s { int a; }; struct s *(*a)(int);", api.OK},
		{"int (*a)(@void, int);", api.ErrType},
		{"int (*a)(int, @void);", api.ErrType},
		{"int (*a)(int, @public void);", api.ErrType},
		{"int (*a)(void *);", api.OK},
		{"struct s { int a; }; int (*a)(@struct s);", api.ErrType},
		{"struct s { int a; }; int (*a)(struct s *);", api.OK},
		{"int (*a)(int, @struct n *);", api.ErrName},
		{"int (*a)(int, @secret void *);", api.ErrType},
	}))
}

// Of a pointer to a function there come first its spec, then the parameters' types, then the rule for its result.
func TestOrderInPointersToFunctions(t *testing.T) {
	wholes(t, ended([]sample{
		{"@struct n (*a)(struct m *);", api.ErrName},
		{"@secret void (*a)(struct m *);", api.ErrType},
		{"struct s { int a; }; struct s (*a)(int, @struct m *);", api.ErrName},
		{"struct s { int a; }; struct s (*a)(@void, struct m *);", api.ErrType},
		{"struct s { int a; }; struct s (*a)(int, @struct s);", api.ErrType},
		{"struct s { int a; }; int (*a)(@void, struct m *);", api.ErrType},
		{"struct s { int a; }; int (*a)(@struct m *, void);", api.ErrName},
		{"int a; struct s { int a; }; @struct s (*a)(int);", api.ErrType},
	}))
}

func TestStructs(t *testing.T) {
	p := passes(t, "struct a { struct b *n; char c; }; struct b { struct a x; struct c *y; }; struct c { struct b z[2]; long k; }; struct c g;"+end)
	for i, size := range []int{16, 24, 56} {
		if r := (api.Type{Kind: api.Struct, Num: i}); p.Table.Size(r) != size {
			t.Errorf("%s has %d bytes, want %d", p.Table.Show(r), p.Table.Size(r), size)
		}
	}
	if got := p.Table.Show(p.Table.Fields(0)[0].Type); got != "struct b*" {
		t.Errorf("a field of type %s", got)
	}
	if p.Globals[0].Type.Num != 2 || len(p.Globals[0].Data) != 56 {
		t.Errorf("%+v", p.Globals[0])
	}
}

func TestFaultsOfStructs(t *testing.T) {
	wholes(t, ended([]sample{
		{"struct @a { struct a b; };", api.ErrType},
		{"struct @a { struct b b; }; struct b { int a; };", api.ErrType},
		{"struct a { struct b *b; }; struct b { int a; };", api.OK},
		{"struct @a { void v; };", api.ErrType},
		{"struct @a { };", api.ErrType},
		{"struct @a { int x; char x; };", api.ErrTwice},
		{"struct a { int x; }; struct @a { int y; };", api.ErrTwice},
		{"struct a { int x; }; struct @a { };", api.ErrTwice},
		{"struct a { int x; }; struct b { struct a y; }; struct @a { int y; };", api.ErrTwice},
		{"struct a { @struct n *p; };", api.ErrName},
		{"struct a { int x; int x; @struct n *p; };", api.ErrName},
		{"struct a { int x; }; struct a { @struct n *p; };", api.ErrName},
		{"struct a { @secret void *p; };", api.ErrType},
		{"struct a { int (*p)(@void, int); };", api.ErrType},
		{"struct @a { char x[4096][9]; };", api.ErrFrame},
		{"struct @a { char x[4096][4096][4096][4096]; };", api.ErrFrame},
		{"struct @a { char x[4096][8]; char y; };", api.ErrFrame},
		{"struct a { char x[4096][8]; };", api.OK},
		{"struct a { int x; }; int a;", api.OK},
		{"struct main { int main; };", api.OK},
		{"struct out { int out; };", api.OK},
	}))
}

func manyStructs(n int) string {
	var b strings.Builder
	for i := range n {
		b.WriteString("struct s" + string(rune('a'+i)) + " { int a; };")
	}
	return b.String()
}

func TestCountOfStructs(t *testing.T) {
	fields := strings.Repeat("int a; ", 21)
	wholes(t, ended([]sample{
		{manyStructs(20), api.OK},
		{manyStructs(20) + "struct @a { int a; };", api.ErrCount},
		{manyStructs(20) + "struct @a { int a; }; struct b { int a; };", api.ErrCount},
		{manyStructs(20) + "struct @sa { struct n *a; };", api.ErrCount},
		{"struct a { struct n *a; };" + manyStructs(19) + "struct @b { int a; };", api.ErrCount},
		{"struct @a { " + fields + "};", api.ErrCount},
	}))
}

func TestResultsAndParameters(t *testing.T) {
	s := "struct s { int a; };"
	wholes(t, ended([]sample{
		{s + "struct s @f() {}", api.ErrType},
		{s + "public struct s @f() {}", api.ErrType},
		{s + "struct s *f() { return 0; }", api.OK},
		{s + "void f(struct s *a, int (*b)(int), secret char d) {}", api.OK},
		{s + "void f(struct s @a) {}", api.ErrType},
		{s + "void f(int a, void @b) {}", api.ErrType},
		{s + "void f(int @a[3]) {}", api.ErrType},
		{s + "void f(int (*@a[3])(int)) {}", api.ErrType},
		{s + "@struct n *f() {}", api.ErrName},
		{s + "@secret void f() {}", api.ErrType},
		{s + "@secret struct s *f() {}", api.ErrType},
		{s + "void f(int a, @struct n *b) {}", api.ErrName},
		{s + "void f(int a, @secret void *b) {}", api.ErrType},
		{s + "void f(int (*a)(int, @struct s)) {}", api.ErrType},
		{s + "void f(@struct s (*a)(int)) {}", api.ErrType},
		{s + "void f(int @a[3], struct n *b) {}", api.ErrType},
		{s + "struct s @f(struct n *b) {}", api.ErrType},
	}))
}

func TestMain(t *testing.T) {
	wholes(t, []sample{
		{"@", api.ErrMain},
		{"@int x;", api.ErrMain},
		{"@int f() { return y; }", api.ErrMain},
		{"@int main;", api.ErrMain},
		{"@struct main { int a; };", api.ErrMain},
		{"int @main(int a) { return 0; }", api.ErrMain},
		{"int @main(int a, int b) { return y; }", api.ErrMain},
		{"void @main() { }", api.ErrMain},
		{"int *@main() { return 0; }", api.ErrMain},
		{"secret int @main() { return 0; }", api.ErrMain},
		{"public unsigned long main() { return 0; }", api.OK},
		{"char main(void) { return 0; }", api.OK},
		{"int main; int @main() { return 0; }", api.ErrTwice},
		{"int main() { return 0; } int @main(int a) { return 0; }", api.ErrTwice},
		{"struct s { int a; }; struct s @main(int a) { return 0; }", api.ErrType},
		{"int main(@struct n *a) { return 0; }", api.ErrName},
		{"int main(void @a) { return 0; }", api.ErrType},
		{"int main() { return main(); }", api.OK},
	})
}
