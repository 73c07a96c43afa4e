package check

import (
	"testing"

	"merlon/api"
)

// A giving is a declaration's type and name, what it is given, and the kind of the fault.
type giving struct {
	decl, value string
	kind        api.Errno
}

// givings are what the rule for assignable values says, wherever one is given.
func givings() []giving {
	return []giving{
		{"int *", "0", api.OK}, {"char", "l", api.OK}, {"unsigned long", "c", api.OK}, {"int", "k", api.ErrFlow}, {"char", "kl", api.ErrFlow}, {"int", "t[k]", api.ErrFlow}, {"int", "x + k", api.ErrFlow}, {"int", "x && k", api.ErrFlow}, {"int", "!k", api.ErrFlow}, {"int", "(int) k", api.ErrFlow}, {"int", "(public int) k", api.ErrFlow}, {"int", "k ? 1 : 2", api.ErrFlow}, {"int", "sf(1)", api.ErrFlow}, {"int", "z.b", api.ErrFlow}, {"int", "*kp", api.ErrFlow}, {"int", "&t[k] == p", api.ErrFlow}, {"int", "p - &t[k]", api.ErrFlow}, {"int", "&t[k] == 0", api.ErrFlow}, {"int", "x << k", api.ErrFlow}, {"int", "k++", api.ErrFlow}, {"int", "k = x", api.ErrFlow}, {"int", "k += x", api.ErrFlow},
		{"secret int", "x", api.OK}, {"secret int", "k", api.OK}, {"secret char", "kl", api.OK}, {"secret int", "t[k]", api.OK}, {"secret long", "p - &t[k]", api.OK},
		{"int", "p", api.ErrType}, {"int", "z", api.ErrType}, {"int", "nothing()", api.ErrType}, {"int", "t", api.ErrType}, {"int", "f", api.ErrType}, {"int", "&t[k]", api.ErrType}, {"secret int", "p", api.ErrType}, {"secret int", "z", api.ErrType}, {"int", "z = w", api.ErrType},
		{"int *", "p", api.OK}, {"int *", "t", api.OK}, {"int *", "'\\0'", api.OK}, {"int *", "0ul", api.OK}, {"int *", "&x", api.OK}, {"int *", "z.q", api.OK}, {"int *", "z.n", api.OK}, {"int *", "pf()", api.OK}, {"int *", "x ? p : 0", api.OK}, {"int *", "p = 0", api.OK}, {"int *", "p++", api.OK}, {"int *", "tt[1]", api.OK},
		{"int *", "x", api.ErrType}, {"int *", "1", api.ErrType}, {"int *", "(int) 0", api.ErrType}, {"int *", "-0", api.ErrType}, {"int *", "0 + 0", api.ErrType}, {"int *", "v", api.ErrType}, {"int *", "cp", api.ErrType}, {"int *", "kp", api.ErrType}, {"int *", "tt", api.ErrType}, {"int *", "z", api.ErrType}, {"int *", "nothing()", api.ErrType}, {"int *", "k", api.ErrType}, {"int *", "&t", api.ErrType}, {"int *", "zs[k].next", api.ErrType}, {"int *", "f", api.ErrType}, {"int *", "vt[k]", api.ErrType},
		{"int *", "&t[k]", api.ErrFlow}, {"int *", "pt[k]", api.ErrFlow}, {"int *", "tt[k]", api.ErrFlow}, {"int *", "zs[k].n", api.ErrFlow}, {"int *", "k ? p : 0", api.ErrFlow}, {"int *", "p + k", api.ErrFlow}, {"int *", "k + p", api.ErrFlow}, {"void *", "vt[k]", api.ErrFlow},
		{"void *", "v", api.OK}, {"void *", "0", api.OK}, {"void *", "p", api.ErrType}, {"secret int *", "kp", api.OK}, {"secret int *", "kt", api.OK}, {"secret int *", "p", api.ErrType}, {"secret int *", "&kt[k]", api.ErrFlow}, {"struct s *", "zp", api.OK}, {"struct s *", "zs", api.OK}, {"struct s *", "&o", api.ErrType}, {"struct s *", "&zs[k]", api.ErrFlow},
	}
}

// The value stands behind a =, or as an argument, or behind return; the place of the fault differs.
func TestAssignable(t *testing.T) {
	mark := func(s string, g giving) string {
		if g.kind == api.OK {
			return replaced(s, "")
		}
		return replaced(s, "@")
	}
	for _, g := range givings() {
		fails(t, inMain(g.decl+" y; y "+mark("#= ", g)+g.value+";"), g.kind)
		fails(t, inMain(g.decl+mark(" #y = ", g)+g.value+";"), g.kind)
		fails(t, inMain("for ("+g.decl+mark(" #y = ", g)+g.value+"; ; ) ;"), g.kind)
		fails(t, things+g.decl+" give() { "+mark("#return ", g)+g.value+"; } int main() { return 0; }", g.kind)
		s, f := Check(things + "void take(int i, " + g.decl + " a) {} int main() { take(1, " + g.value + "); return 0; }")
		if f.Kind != g.kind || s == nil != (g.kind != api.OK) {
			t.Errorf("take(1, %s) for %s: fault %d, want %d", g.value, g.decl, int(f.Kind), int(g.kind))
		}
	}
}

func TestPointersToFunctionsAssigned(t *testing.T) {
	bodies(t, []sample{
		{"fp = f;", api.OK}, {"fp = &f;", api.OK}, {"fp = &(&f);", api.OK}, {"fp = 0;", api.OK}, {"fp = ft[0];", api.OK}, {"fp2 = g;", api.OK}, {"vp = nothing;", api.OK}, {"int (*y)(int) = f;", api.OK}, {"secret int (*y)(secret int) = sf;", api.OK},
		{"fp @= g;", api.ErrType}, {"fp @= sf;", api.ErrType}, {"fp @= nothing;", api.ErrType}, {"fp @= ft[k];", api.ErrFlow}, {"fp @= k ? f : fp;", api.ErrFlow}, {"fp @= ft;", api.ErrType}, {"int (*@y)(secret int) = f;", api.ErrType}, {"secret int (*@y)(int) = f;", api.ErrType},
	})
}

func TestPlacesOfAssignments(t *testing.T) {
	for _, op := range []string{"=", "+=", "-=", "*=", "/=", "%=", "&=", "|=", "^=", "<<=", ">>="} {
		bodies(t, []sample{
			{"x " + op + " 1;", api.OK}, {"t[1] " + op + " 1;", api.OK}, {"*p " + op + " 1;", api.OK}, {"z.a " + op + " 1;", api.OK}, {"zp->a " + op + " 1;", api.OK}, {"(x) " + op + " 1;", api.OK},
			{"@5 " + op + " 1;", api.ErrPlace}, {"(x @+ 1) " + op + " 1;", api.ErrPlace}, {"f@(1) " + op + " 1;", api.ErrPlace}, {"@f " + op + " 0;", api.ErrPlace}, {"(x @= 1) " + op + " 1;", api.ErrPlace}, {"@(int) x " + op + " 1;", api.ErrPlace}, {"x@++ " + op + " 1;", api.ErrPlace}, {"@-x " + op + " 1;", api.ErrPlace}, {"@&x " + op + " 0;", api.ErrPlace}, {"(x @&& x) " + op + " 0;", api.ErrPlace}, {"(x @? x : x) " + op + " 0;", api.ErrPlace}, {"nothing@() " + op + " 0;", api.ErrPlace},
			{"@t " + op + " p;", api.ErrPlace}, {"tt@[1] " + op + " p;", api.ErrPlace}, {"z@.n " + op + " p;", api.ErrPlace}, {"tt@[k] " + op + " p;", api.ErrPlace}, {"@*&t " + op + " p;", api.ErrPlace},
		})
	}
	sorts(t, [][2]string{{"x = 1", "int"}, {"c = 1", "char"}, {"c += 1", "char"}, {"ul <<= 1", "unsigned long"}, {"k = x", "secret int"}, {"kc += x", "secret char"}, {"kt[k] = 1", "secret int"}, {"p = 0", "int*"}, {"p += 1", "int*"}, {"p -= 1", "int*"}, {"z = w", "void"}, {"fp = f", "int(int)*"}, {"x = c = 5", "int"}, {"p++", "int*"}, {"--c", "char"}, {"k++", "secret int"}, {"++uh", "unsigned short"}, {"kt[k]--", "secret int"}, {"zp--", "struct s*"}})
}

func TestHiddenPlaces(t *testing.T) {
	bodies(t, []sample{
		{"kt[k] = x;", api.OK}, {"kt[k] = k;", api.OK}, {"kt[k] += k;", api.OK}, {"kt[k] <<= k;", api.OK}, {"kt[k]++;", api.OK}, {"--kt[k];", api.OK}, {"zs[k].b = 1;", api.OK}, {"*(kp + k) = 1;", api.OK}, {"zs[k].m[k] -= 1;", api.OK}, {"*kpt[k] = k;", api.OK},
		{"t[k] @= 1;", api.ErrFlow}, {"t[k] @= k;", api.ErrFlow}, {"t[k] @+= 1;", api.ErrFlow}, {"t[k]@++;", api.ErrFlow}, {"@--t[k];", api.ErrFlow}, {"zs[k].a @= 1;", api.ErrFlow}, {"*(p + k) @= 1;", api.ErrFlow}, {"*pt[k] @= 1;", api.ErrFlow}, {"*(k ? p : p2) @= 1;", api.ErrFlow}, {"(zp + k)->a @*= 2;", api.ErrFlow},
		{"pt[k] @= p;", api.ErrFlow}, {"pt[k] @= 0;", api.ErrFlow}, {"pt[k] @+= 1;", api.ErrFlow}, {"pt[k]@++;", api.ErrFlow}, {"@--pt[k];", api.ErrFlow}, {"zs[k].next @= 0;", api.ErrFlow}, {"ft[k] @= f;", api.ErrFlow}, {"vt[k] @= v;", api.ErrFlow},
		{"t[k] @= p;", api.ErrType}, {"pt[k] @= x;", api.ErrType}, {"t[k] @+= p;", api.ErrType}, {"pt[k] @*= 2;", api.ErrType}, {"vt[k] @+= 1;", api.ErrType}, {"vt[k]@++;", api.ErrType}, {"ft[k]@--;", api.ErrType}, {"zs[k]@++;", api.ErrType}, {"tt[k]@++;", api.ErrType}, {"kt[k] @= p;", api.ErrType},
	})
}

func TestStructsAssigned(t *testing.T) {
	bodies(t, []sample{
		{"z = w;", api.OK}, {"zs[1] = zs[x];", api.OK}, {"*zp = z;", api.OK}, {"z = *zp->next;", api.OK}, {"e1 = e2;", api.OK}, {"struct s y = z;", api.OK}, {"struct fit y = e1;", api.OK}, {"struct big y; y.a[0] = 1;", api.OK}, {"o = *&o;", api.OK},
		{"z @= x;", api.ErrType}, {"z @= o;", api.ErrType}, {"o @= z;", api.ErrType}, {"z @= 0;", api.ErrType}, {"z @= zp;", api.ErrType}, {"z @= zs;", api.ErrType}, {"z @= nothing();", api.ErrType}, {"z @= f(1);", api.ErrType}, {"x @= z;", api.ErrType}, {"z @= (w = z);", api.ErrType}, {"z @= w = z;", api.ErrType}, {"z @= k;", api.ErrType},
		{"zs[k] @= z;", api.ErrFlow}, {"z @= zs[k];", api.ErrFlow}, {"*(zp + k) @= z;", api.ErrFlow}, {"zs[k] @= zs[k];", api.ErrFlow}, {"zs[k] @= o;", api.ErrType}, {"zs[k] @= x;", api.ErrType},
		{"b1 @= b2;", api.ErrSize}, {"b1 @= e1;", api.ErrType}, {"b1 @= *(&b2 + k);", api.ErrFlow}, {"*(&b1 + k) @= b2;", api.ErrFlow}, {"b1 @= 5;", api.ErrType},
		{"struct s @y = x;", api.ErrType}, {"struct s @y = o;", api.ErrType}, {"struct s @y = 0;", api.ErrType}, {"struct s @y = zs[k];", api.ErrFlow}, {"struct big @y = b1;", api.ErrSize}, {"struct big @y = *(&b1 + k);", api.ErrFlow}, {"struct s @y = nothing();", api.ErrType},
	})
	for _, op := range []string{"+=", "-=", "*=", "|=", "<<="} {
		bodies(t, []sample{{"z @" + op + " w;", api.ErrType}, {"z @" + op + " x;", api.ErrType}, {"zs[k] @" + op + " w;", api.ErrType}, {"b1 @" + op + " b2;", api.ErrType}, {"x @" + op + " z;", api.ErrType}, {"p @" + op + " z;", api.ErrType}})
	}
}

func TestAssignmentsWithOperators(t *testing.T) {
	for _, op := range []string{"+=", "-=", "*=", "/=", "%=", "&=", "|=", "^=", "<<=", ">>="} {
		bodies(t, []sample{
			{"x " + op + " c;", api.OK}, {"c " + op + " ul;", api.OK}, {"k " + op + " x;", api.OK}, {"k " + op + " kl;", api.OK}, {"kc " + op + " t[k];", api.OK},
			{"x @" + op + " k;", api.ErrFlow}, {"ul @" + op + " kc;", api.ErrFlow}, {"x @" + op + " t[k];", api.ErrFlow}, {"x @" + op + " (int) k;", api.ErrFlow},
			{"x @" + op + " p;", api.ErrType}, {"k @" + op + " p;", api.ErrType}, {"x @" + op + " nothing();", api.ErrType}, {"x @" + op + " &t[k];", api.ErrType}, {"v @" + op + " 1;", api.ErrType}, {"fp @" + op + " 1;", api.ErrType}, {"p @" + op + " p;", api.ErrType}, {"p @" + op + " nothing();", api.ErrType}, {"v @" + op + " k;", api.ErrType},
		})
	}
	for _, op := range []string{"+=", "-="} {
		bodies(t, []sample{{"p " + op + " 1;", api.OK}, {"p " + op + " ul;", api.OK}, {"cp " + op + " 1;", api.OK}, {"zp " + op + " c;", api.OK}, {"pp " + op + " 0;", api.OK}, {"p @" + op + " k;", api.ErrFlow}, {"p @" + op + " t[k];", api.ErrFlow}, {"pt[k] @" + op + " 1;", api.ErrFlow}})
	}
	for _, op := range []string{"*=", "/=", "%=", "&=", "|=", "^=", "<<=", ">>="} {
		bodies(t, []sample{{"p @" + op + " 1;", api.ErrType}, {"p @" + op + " k;", api.ErrType}, {"p @" + op + " 0;", api.ErrType}})
	}
}

func TestSteps(t *testing.T) {
	bodies(t, []sample{
		{"x++; --x; p++; --p; zp++; pp--; t[1]++; ++z.a; zp->a--; (x)++; ++*p; *p++; cp--;", api.OK},
		{"@5++;", api.ErrPlace}, {"++@5;", api.ErrPlace}, {"f@(1)++;", api.ErrPlace}, {"--@f;", api.ErrPlace}, {"x@++ ++;", api.ErrPlace}, {"++ @++x;", api.ErrPlace}, {"(x @+ 1)--;", api.ErrPlace},
		{"t@++;", api.ErrType}, {"@--t;", api.ErrType}, {"z@++;", api.ErrType}, {"v@++;", api.ErrType}, {"@++v;", api.ErrType}, {"fp@--;", api.ErrType}, {"@--z;", api.ErrType}, {"tt[1]@++;", api.ErrType},
	})
}
