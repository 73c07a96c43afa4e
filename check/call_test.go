package check

import (
	"testing"

	"merlon/api"
)

func TestCalls(t *testing.T) {
	sorts(t, [][2]string{
		{"f(1)", "int"}, {"nothing()", "void"}, {"sf(k)", "secret int"}, {"sf(1)", "secret int"}, {"pf()", "int*"}, {"fp(1)", "int"}, {"ft[x](1)", "int"}, {"(&f)(1)", "int"}, {"(x ? f : fp)(1)", "int"}, {"vp()", "void"}, {"fp2(1, p)", "int"}, {"out(1)", "void"}, {"pf()[1]", "int"}, {"*pf()", "int"}, {"main()", "int"}, {"(fp = f)(1)", "int"},
	})
	bodies(t, []sample{
		{"x@();", api.ErrType}, {"x@(y);", api.ErrType}, {"5@();", api.ErrType}, {"p@(1);", api.ErrType}, {"v@();", api.ErrType}, {"z@();", api.ErrType}, {"ft@(1);", api.ErrType}, {"nothing()@();", api.ErrType}, {"(&fp)@(1);", api.ErrType}, {"0@();", api.ErrType}, {"k@();", api.ErrType},
		{"(@*fp)(1);", api.ErrType}, {"(@*f)(1);", api.ErrType},
		{"ft[k]@(1);", api.ErrFlow}, {"(k ? f : fp)@(1);", api.ErrFlow}, {"ft[k]@();", api.ErrFlow}, {"(*(ft + k))@(1);", api.ErrFlow},
		{"f@();", api.ErrCall}, {"f@(1, 2);", api.ErrCall}, {"nothing@(1);", api.ErrCall}, {"fp@();", api.ErrCall}, {"g@(1);", api.ErrCall}, {"g@(1, p, 2);", api.ErrCall}, {"x + f@(y, y);", api.ErrCall}, {"f(f@());", api.ErrCall},
		{"f(@k);", api.ErrFlow}, {"f(@p);", api.ErrType}, {"f(x @+ k);", api.ErrFlow}, {"g(1, @k);", api.ErrType},
		{"g(1, @&t[k]);", api.ErrFlow}, {"g(1, pt@[k]);", api.ErrFlow}, {"g(1, 0);", api.OK}, {"g(1, @1);", api.ErrType}, {"g(1, @v);", api.ErrType}, {"f(@z);", api.ErrType}, {"f(nothing@());", api.ErrType}, {"g(@k, k);", api.ErrFlow},
		{"fp(@k);", api.ErrFlow}, {"ft[1](@p);", api.ErrType}, {"f(@(int *) p);", api.ErrType}, {"f(f(@k));", api.ErrFlow}, {"f(x @? k : k);", api.ErrFlow},
	})
}

func TestOut(t *testing.T) {
	bodies(t, []sample{
		{"out(1); out(c); out(ul); out(x ? 1 : 2); (out)(x);", api.OK},
		{"out(@k);", api.ErrFlow}, {"out(t@[k]);", api.ErrFlow}, {"out(x @+ kc);", api.ErrFlow}, {"out(@(int) k);", api.ErrFlow}, {"out(sf@(1));", api.ErrFlow},
		{"out(@p);", api.ErrType}, {"out(@z);", api.ErrType}, {"out(@t);", api.ErrType}, {"out(out@(1));", api.ErrType}, {"out(@&t[k]);", api.ErrType}, {"out(nothing@());", api.ErrType}, {"out(@f);", api.ErrType},
		{"out@();", api.ErrCall}, {"out@(1, 2);", api.ErrCall}, {"out@(k, k);", api.ErrCall},
		{"x @= out(1);", api.ErrType}, {"out(1) @+ 1;", api.ErrType}, {"@out = 1;", api.ErrName}, {"@out[1];", api.ErrName}, {"f(@out);", api.ErrName},
	})
}

// A local may be named out; what is called then is the local.
func TestLocalOut(t *testing.T) {
	bodies(t, []sample{
		{"int out; out@(1);", api.ErrType},
		{"int out; out = 1; x = out;", api.OK},
		{"int (*out)(int) = f; x = out(1);", api.OK},
		{"int (*out)(int) = f; out@();", api.ErrCall},
		{"int (*out)(int) = f; out(@k);", api.ErrFlow},
		{"{ int out; } out(1);", api.OK},
		{"out(1); int out; out@(1);", api.ErrType},
		{"int (*out)(int *); { out(p); } out(@x);", api.ErrType},
	})
	wholes(t, ended([]sample{
		{"struct s { int (*out)(int, int); }; struct s z; int f(secret int k) { return z.out(1, 2) + (&z)->out@(1); }", api.ErrCall},
		{"int @out;", api.ErrTwice},
		{"int @out() { return 0; }", api.ErrTwice},
		{"int f(int (*out)(int, int)) { return out(1, 2); }", api.OK},
		{"int f(int out) { return out@(1); }", api.ErrType},
		{"int f(int out) { return 0; } int g() { out(1); return 0; }", api.OK},
	}))
}
