package check

import (
	"testing"

	"merlon/api"
)

// sort is a type's text, with ^ behind it for what is hidden.
func sort(p *Prog, n *Node) string {
	s := p.Table.Show(n.Type)
	if n.Hid {
		s += "^"
	}
	return s
}

// sorts checks the types of the values of expressions.
func sorts(t *testing.T, want [][2]string) {
	t.Helper()
	for _, w := range want {
		p, m := mainOf(t, w[0]+";")
		if got := sort(p, m.Body.Kids[0].E); got != w[1] {
			t.Errorf("%s is of type %s, want %s", w[0], got, w[1])
		}
	}
}

func TestNumbers(t *testing.T) {
	sorts(t, [][2]string{
		{"0", "int"}, {"'a'", "int"}, {"2147483647", "int"}, {"2147483648", "long"}, {"0x7FFFFFFF", "int"}, {"0x80000000", "long"}, {"4294967296", "long"},
		{"9223372036854775807", "long"}, {"9223372036854775808", "unsigned long"}, {"18446744073709551615", "unsigned long"},
		{"0u", "unsigned int"}, {"2147483648u", "unsigned int"}, {"4294967295u", "unsigned int"}, {"4294967296u", "unsigned long"}, {"18446744073709551615u", "unsigned long"},
		{"0l", "long"}, {"9223372036854775807l", "long"}, {"9223372036854775808l", "unsigned long"},
		{"0ul", "unsigned long"}, {"18446744073709551615ul", "unsigned long"},
	})
	for text, size := range map[string]int{"1": 4, "1u": 4, "1l": 8, "4294967296": 8, "1 == 1l": 4, "p - p": 8, "sizeof(char)": 8, "!l": 4, "-c": 4, "x ? c : l": 8} {
		p, m := mainOf(t, text+";")
		if got := p.Table.Size(m.Body.Kids[0].E.Type); got != size {
			t.Errorf("%s has %d bytes, want %d", text, got, size)
		}
	}
}

func TestNamesAsValues(t *testing.T) {
	sorts(t, [][2]string{
		{"x", "int"}, {"k", "secret int"}, {"uc", "unsigned char"}, {"p", "int*"}, {"v", "void*"}, {"t", "int*"}, {"kt", "secret int*"}, {"tt", "int[3]*"}, {"pt", "int**"},
		{"f", "int(int)*"}, {"main", "int()*"}, {"fp", "int(int)*"}, {"ft", "int(int)**"}, {"zp", "struct s*"}, {"zs", "struct s*"},
	})
	bodies(t, []sample{
		{"@y;", api.ErrName}, {"x = @out;", api.ErrName}, {"@out;", api.ErrName}, {"&@out;", api.ErrName}, {"@s;", api.ErrName}, {"@a;", api.ErrName},
		{"@z;", api.ErrType}, {"zs@[0];", api.ErrType}, {"@*zp;", api.ErrType}, {"for (; ; @z) ;", api.ErrType}, {"for (@z; ; ) ;", api.ErrType}, {"for (z = w; ; z = w) ;", api.OK},
	})
}

func TestSizeof(t *testing.T) {
	for text, want := range map[string]int64{"char": 1, "short": 2, "unsigned": 4, "secret long": 8, "int *": 8, "void *": 8, "struct s": 48, "struct s *": 8, "struct big": 257, "struct r": 4} {
		p, m := mainOf(t, "sizeof("+text+");")
		n := m.Body.Kids[0].E
		if n.Op != Const || n.Num != want || sort(p, n) != "unsigned long" {
			t.Errorf("sizeof(%s) = %d: %s, want %d", text, n.Num, sort(p, n), want)
		}
	}
	bodies(t, []sample{{"x + @sizeof(void);", api.ErrType}, {"sizeof(@struct n);", api.ErrName}, {"sizeof(@struct n *);", api.ErrName}, {"sizeof(@secret void *);", api.ErrType}, {"sizeof(@secret struct s);", api.ErrType}})
}

func TestCasts(t *testing.T) {
	sorts(t, [][2]string{
		{"(char) x", "char"}, {"(unsigned long) c", "unsigned long"}, {"(int) x", "int"}, {"(secret int) x", "secret int"}, {"(int) k", "secret int"}, {"(secret char) k", "secret char"}, {"(public short) kl", "secret short"},
		{"(int) t[k]", "secret int"}, {"(char) (p == 0)", "char"}, {"(unsigned) 0", "unsigned int"},
	})
	bodies(t, []sample{
		{"(int) @p;", api.ErrType}, {"(int) @z;", api.ErrType}, {"(int) @t;", api.ErrType}, {"(long) @f;", api.ErrType}, {"(int) nothing@();", api.ErrType}, {"x + @(struct s) z;", api.ErrType}, {"@(void) x;", api.ErrType}, {"@(int *) p;", api.ErrType}, {"@(void *) 0;", api.ErrType},
		{"(@struct n) x;", api.ErrName}, {"(@struct n *) x;", api.ErrName}, {"(@secret void) x;", api.ErrType}, {"(@secret struct s) x;", api.ErrType}, {"@(void) z;", api.ErrType}, {"(char) (x @+ z);", api.ErrType},
	})
}

func TestPlaces(t *testing.T) {
	sorts(t, [][2]string{
		{"*p", "int"}, {"*t", "int"}, {"**pp", "int"}, {"*kp", "secret int"}, {"*pt", "int*"}, {"**pt", "int"}, {"*tt", "int*"}, {"**tt", "int"}, {"*ft", "int(int)*"}, {"*cp", "char"},
		{"t[1]", "int"}, {"1[t]", "int"}, {"p[x]", "int"}, {"c[p]", "int"}, {"tt[1]", "int*"}, {"tt[1][2]", "int"}, {"1[tt][2]", "int"}, {"ft[0]", "int(int)*"}, {"pt[0][0]", "int"}, {"kt[1]", "secret int"},
		{"t[k]", "secret int"}, {"k[t]", "secret int"}, {"kt[k]", "secret int"}, {"tt[k][0]", "secret int"}, {"tt[0][k]", "secret int"}, {"tt[k]", "int*^"}, {"pt[k]", "int*^"}, {"pt[k][0]", "secret int"}, {"*pt[k]", "secret int"}, {"ft[k]", "int(int)*^"}, {"*(p + k)", "secret int"},
		{"z.a", "int"}, {"z.b", "secret int"}, {"z.q", "int*"}, {"z.n", "int*"}, {"z.next", "struct s*"}, {"z.m[0]", "secret char"}, {"zs[0].a", "int"}, {"zs[k].a", "secret int"}, {"zs[k].b", "secret int"}, {"zs[k].q", "int*^"}, {"zs[k].n", "int*^"}, {"zs[k].n[0]", "secret int"}, {"*zs[k].q", "secret int"},
		{"zp->a", "int"}, {"zs->a", "int"}, {"zp->next->next->b", "secret int"}, {"(zp + k)->a", "secret int"}, {"(zp + k)->next->a", "secret int"}, {"(*zp).q", "int*"}, {"zp[2].m", "secret char*"}, {"z.next->n[1]", "int"},
		{"&x", "int*"}, {"&k", "secret int*"}, {"&t", "int[4]*"}, {"&t[1]", "int*"}, {"&tt[1]", "int[3]*"}, {"&t[k]", "int*^"}, {"&zs[k].n", "int[3]*^"}, {"&z", "struct s*"}, {"&z.a", "int*"}, {"&zp->next", "struct s**"}, {"&*p", "int*"}, {"*&x", "int"}, {"(&t)[0]", "int*"}, {"*&t", "int*"}, {"*&t[k]", "secret int"},
		{"&p", "int**"}, {"&v", "void**"}, {"*&v", "void*"}, {"&f", "int(int)*"}, {"&(&f)", "int(int)*"}, {"& & &main", "int()*"}, {"&fp", "int(int)**"}, {"&ft", "int(int)*[4]*"}, {"&*vt", "void**"}, {"&pt[k]", "int**^"}, {"*&pt[k]", "int*^"},
	})
	bodies(t, []sample{
		{"@*x;", api.ErrType}, {"@*v;", api.ErrType}, {"@*f;", api.ErrType}, {"@*fp;", api.ErrType}, {"@*z;", api.ErrType}, {"@*nothing;", api.ErrType}, {"@*0;", api.ErrType},
		{"@**p;", api.ErrType}, {"@**cp;", api.ErrType}, {"*@*v;", api.ErrType},
		{"x@[1];", api.ErrType}, {"v@[1];", api.ErrType}, {"1@[v];", api.ErrType}, {"f@[0];", api.ErrType}, {"p@[p];", api.ErrType}, {"z@[0];", api.ErrType}, {"p@[z];", api.ErrType}, {"t[0]@[0];", api.ErrType}, {"tt[0][0]@[0];", api.ErrType}, {"1@[2];", api.ErrType}, {"p@[v];", api.ErrType}, {"fp@[0];", api.ErrType},
		{"x@.a;", api.ErrType}, {"p@.a;", api.ErrType}, {"zp@.a;", api.ErrType}, {"zs@.a;", api.ErrType}, {"z@.c;", api.ErrName}, {"z@.s;", api.ErrName}, {"o@.b;", api.ErrName}, {"z.next@.a;", api.ErrType}, {"z.n@.a;", api.ErrType},
		{"@5 .a;", api.ErrPlace}, {"@f.a;", api.ErrPlace}, {"f@(1).a;", api.ErrPlace}, {"(x @+ 1).a;", api.ErrPlace}, {"(z @= w).a;", api.ErrPlace},
		{"z@->a;", api.ErrType}, {"x@->a;", api.ErrType}, {"p@->a;", api.ErrType}, {"v@->a;", api.ErrType}, {"f@->a;", api.ErrType}, {"zp@->c;", api.ErrName}, {"zs@->c;", api.ErrName}, {"tt@->a;", api.ErrType}, {"0@->a;", api.ErrType}, {"zp->next@->y;", api.ErrName},
		{"&@5;", api.ErrPlace}, {"&f@(1);", api.ErrPlace}, {"&(x @+ 1);", api.ErrPlace}, {"&(x @= 1);", api.ErrPlace}, {"&x@++;", api.ErrPlace}, {"& @&x;", api.ErrPlace}, {"&@!x;", api.ErrPlace}, {"&(x @? x : x);", api.ErrPlace}, {"&@(int) x;", api.ErrPlace}, {"&(x @? f : f);", api.ErrPlace}, {"&(z @= w);", api.ErrPlace},
	})
}

func TestPointersMoved(t *testing.T) {
	sorts(t, [][2]string{
		{"p + 1", "int*"}, {"1 + p", "int*"}, {"p - 1", "int*"}, {"t + c", "int*"}, {"ul + t", "int*"}, {"p + k", "int*^"}, {"k + p", "int*^"}, {"p - k", "int*^"}, {"&t[k] + 1", "int*^"}, {"1 + &t[k]", "int*^"}, {"tt + 1", "int[3]*"}, {"tt[0] + 1", "int*"}, {"pp + 1", "int**"}, {"&v + 1", "void**"}, {"zp + 1", "struct s*"}, {"ft + 1", "int(int)**"}, {"vt - 1", "void**"},
		{"p - p2", "long"}, {"t - p", "long"}, {"p - t", "long"}, {"&t[k] - p", "secret long"}, {"p - &t[k]", "secret long"}, {"&t[k] - &t[k]", "secret long"}, {"tt - tt", "long"}, {"kp - kt", "long"}, {"ft - &ft[1]", "long"},
	})
	bodies(t, []sample{
		{"p @+ p;", api.ErrType}, {"1 @- p;", api.ErrType}, {"v @+ 1;", api.ErrType}, {"1 @+ v;", api.ErrType}, {"v @- 1;", api.ErrType}, {"v @- v;", api.ErrType}, {"f @+ 1;", api.ErrType}, {"1 @+ f;", api.ErrType}, {"fp @- fp;", api.ErrType}, {"p @- cp;", api.ErrType}, {"p @- kp;", api.ErrType}, {"p @- tt;", api.ErrType}, {"p @- pp;", api.ErrType},
		{"p @+ z;", api.ErrType}, {"z @+ p;", api.ErrType}, {"p @- z;", api.ErrType}, {"p @* 2;", api.ErrType}, {"2 @* p;", api.ErrType}, {"p @& 1;", api.ErrType}, {"p @% p;", api.ErrType}, {"p @<< 1;", api.ErrType}, {"1 @<< p;", api.ErrType}, {"p @| p;", api.ErrType}, {"p @- nothing();", api.ErrType}, {"nothing() @+ p;", api.ErrType}, {"zp @- zs[0];", api.ErrType},
	})
}

func TestOperatorsOfIntegers(t *testing.T) {
	for _, op := range []string{"+", "-", "*", "/", "%", "&", "|", "^"} {
		sorts(t, [][2]string{
			{"c" + op + "c", "int"}, {"uc" + op + "h", "int"}, {"uh" + op + "uc", "int"}, {"x" + op + "c", "int"}, {"x" + op + "u", "unsigned int"}, {"u" + op + "c", "unsigned int"}, {"u" + op + "l", "long"}, {"l" + op + "u", "long"}, {"l" + op + "ul", "unsigned long"}, {"x" + op + "ul", "unsigned long"}, {"1" + op + "1u", "unsigned int"},
			{"k" + op + "x", "secret int"}, {"x" + op + "k", "secret int"}, {"kc" + op + "kc", "secret int"}, {"kc" + op + "ul", "secret unsigned long"}, {"t[k]" + op + "1", "secret int"}, {"l" + op + "ku", "secret long"},
		})
		bodies(t, []sample{{"z @" + op + " x;", api.ErrType}, {"x @" + op + " z;", api.ErrType}, {"nothing() @" + op + " x;", api.ErrType}, {"z @" + op + " z;", api.ErrType}, {"x @" + op + " nothing();", api.ErrType}})
	}
	for _, op := range []string{"<<", ">>"} {
		sorts(t, [][2]string{
			{"c" + op + "c", "int"}, {"uc" + op + "ul", "int"}, {"x" + op + "ul", "int"}, {"u" + op + "x", "unsigned int"}, {"l" + op + "u", "long"}, {"ul" + op + "c", "unsigned long"},
			{"k" + op + "1", "secret int"}, {"x" + op + "k", "secret int"}, {"kc" + op + "kl", "secret int"}, {"ul" + op + "kc", "secret unsigned long"},
		})
		bodies(t, []sample{{"z @" + op + " x;", api.ErrType}, {"x @" + op + " z;", api.ErrType}, {"x @" + op + " p;", api.ErrType}, {"p @" + op + " x;", api.ErrType}})
	}
}

func TestComparisons(t *testing.T) {
	for _, op := range []string{"==", "!=", "<", ">", "<=", ">="} {
		sorts(t, [][2]string{
			{"c" + op + "ul", "int"}, {"l" + op + "l", "int"}, {"k" + op + "x", "secret int"}, {"ul" + op + "kc", "secret int"}, {"t[k]" + op + "0", "secret int"},
			{"p" + op + "p2", "int"}, {"p" + op + "t", "int"}, {"v" + op + "v2", "int"}, {"kp" + op + "kt", "int"}, {"&t[k]" + op + "p", "secret int"}, {"p" + op + "&t[k]", "secret int"}, {"tt" + op + "tt", "int"}, {"zp" + op + "zs", "int"}, {"ft" + op + "ft", "int"}, {"0" + op + "0", "int"}, {"(p == 0)" + op + "x", "int"},
		})
		bodies(t, []sample{
			{"p @" + op + " x;", api.ErrType}, {"x @" + op + " p;", api.ErrType}, {"p @" + op + " 1;", api.ErrType}, {"p @" + op + " v;", api.ErrType}, {"p @" + op + " kp;", api.ErrType}, {"p @" + op + " tt;", api.ErrType}, {"f @" + op + " f;", api.ErrType}, {"fp @" + op + " f;", api.ErrType}, {"fp @" + op + " fp2;", api.ErrType}, {"z @" + op + " z;", api.ErrType}, {"z @" + op + " 0;", api.ErrType}, {"0 @" + op + " z;", api.ErrType}, {"nothing() @" + op + " nothing();", api.ErrType}, {"nothing() @" + op + " 0;", api.ErrType}, {"p @" + op + " (int) 0;", api.ErrType}, {"p @" + op + " -0;", api.ErrType}, {"p @" + op + " 1 - 1;", api.ErrType}, {"0 + 0 @" + op + " p;", api.ErrType},
		})
	}
	for _, op := range []string{"==", "!="} {
		sorts(t, [][2]string{
			{"p" + op + "0", "int"}, {"0" + op + "p", "int"}, {"v" + op + "0", "int"}, {"f" + op + "0", "int"}, {"0" + op + "fp", "int"}, {"t" + op + "0", "int"}, {"&t[k]" + op + "0", "secret int"}, {"0" + op + "ft[k]", "secret int"}, {"p" + op + "'\\0'", "int"}, {"p" + op + "0ul", "int"}, {"p" + op + "(0x0)", "int"}, {"p" + op + "00", "int"},
		})
	}
	for _, op := range []string{"<", ">", "<=", ">="} {
		bodies(t, []sample{{"p @" + op + " 0;", api.ErrType}, {"0 @" + op + " p;", api.ErrType}, {"fp @" + op + " 0;", api.ErrType}, {"t @" + op + " 0;", api.ErrType}})
	}
}

func TestUnaryOperators(t *testing.T) {
	for _, op := range []string{"-", "~"} {
		sorts(t, [][2]string{{op + "c", "int"}, {op + "uh", "int"}, {op + "x", "int"}, {op + "u", "unsigned int"}, {op + "ul", "unsigned long"}, {op + "kc", "secret int"}, {op + "ku", "secret unsigned int"}, {op + "kl", "secret long"}, {op + "t[k]", "secret int"}})
		bodies(t, []sample{{op + "@p;", api.ErrType}, {op + "@z;", api.ErrType}, {op + "@t;", api.ErrType}, {op + "nothing@();", api.ErrType}, {op + "@f;", api.ErrType}, {"x + " + op + "(x @+ p);", api.ErrType}})
	}
	sorts(t, [][2]string{{"!x", "int"}, {"!ul", "int"}, {"!p", "int"}, {"!f", "int"}, {"!t", "int"}, {"!v", "int"}, {"!k", "secret int"}, {"!kl", "secret int"}, {"!&t[k]", "secret int"}, {"!pt[k]", "secret int"}, {"!!kc", "secret int"}})
	bodies(t, []sample{{"!@z;", api.ErrType}, {"!nothing@();", api.ErrType}, {"!!@z;", api.ErrType}, {"!@*zp;", api.ErrType}, {"x + !(z @= w);", api.ErrType}})
}

func TestConditions(t *testing.T) {
	for _, op := range []string{"&&", "||"} {
		sorts(t, [][2]string{{"x" + op + "l", "int"}, {"p" + op + "x", "int"}, {"f" + op + "t", "int"}, {"k" + op + "x", "secret int"}, {"x" + op + "kl", "secret int"}, {"&t[k]" + op + "x", "secret int"}, {"x" + op + "pt[k]", "secret int"}, {"x" + op + "x" + op + "k", "secret int"}})
		bodies(t, []sample{{"@z" + op + "x;", api.ErrType}, {"x" + op + "@z;", api.ErrType}, {"nothing@()" + op + "x;", api.ErrType}, {"x" + op + "nothing@();", api.ErrType}, {"x" + op + "x" + op + "@z;", api.ErrType}})
	}
	for _, s := range []string{"if (#) ;", "if (#) ; else ;", "while (#) ;", "do ; while (#);", "for (; #; ) ;", "# ? 1 : 2;"} {
		for _, text := range []string{"x", "k", "p", "f", "t", "&t[k]", "ul", "v"} {
			passes(t, inMain(replaced(s, text)))
		}
		for _, text := range []string{"@z", "nothing@()", "(z @= w)", "@*zp", "zs@[0]"} {
			fails(t, inMain(replaced(s, text)), api.ErrType)
		}
	}
}

func TestChoices(t *testing.T) {
	sorts(t, [][2]string{
		{"x ? c : c", "int"}, {"x ? x : u", "unsigned int"}, {"x ? l : u", "long"}, {"p ? 1 : 2ul", "unsigned long"}, {"k ? 1 : 2", "secret int"}, {"x ? k : 2", "secret int"}, {"x ? 1 : kl", "secret long"}, {"&t[k] ? 1 : 2", "secret int"}, {"x ? 0 : 0", "int"},
		{"x ? p : p2", "int*"}, {"x ? p : t", "int*"}, {"x ? p : 0", "int*"}, {"x ? 0 : p", "int*"}, {"x ? t : 0", "int*"}, {"x ? v : v2", "void*"}, {"x ? f : fp", "int(int)*"}, {"x ? f : 0", "int(int)*"}, {"k ? p : p2", "int*^"}, {"k ? p : 0", "int*^"}, {"k ? 0 : p", "int*^"}, {"x ? &t[k] : p", "int*^"}, {"x ? p : &t[k]", "int*^"}, {"x ? 0 : &t[k]", "int*^"}, {"pt[k] ? p : p2", "int*^"}, {"x ? tt : tt", "int[3]*"}, {"*(k ? p : p2)", "secret int"},
	})
	bodies(t, []sample{
		{"x @? p : x;", api.ErrType}, {"x @? x : p;", api.ErrType}, {"x @? p : 1;", api.ErrType}, {"x @? p : v;", api.ErrType}, {"x @? p : kp;", api.ErrType}, {"x @? z : w;", api.ErrType}, {"x @? z : 0;", api.ErrType}, {"x @? 0 : z;", api.ErrType}, {"x @? nothing() : nothing();", api.ErrType}, {"x @? nothing() : 0;", api.ErrType}, {"x @? f : fp2;", api.ErrType}, {"x @? p : (int) 0;", api.ErrType}, {"x @? 0 : nothing();", api.ErrType}, {"x @? p : z;", api.ErrType},
		{"(x @? x : x) = 1;", api.ErrPlace}, {"(x @? z : w).a;", api.ErrType},
	})
}
