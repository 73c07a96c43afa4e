package parse

import (
	"reflect"
	"strings"
	"testing"

	"merlon/api"
	"merlon/lex"
)

func TestPrimaries(t *testing.T) {
	for s, want := range map[string]string{
		"x": "x@0", "1": "1@0", "0x1Ful": "0x1Ful@0", "'a'": "'a'@0", "(x)": "x@1", "((x))": "x@2", "( /* c */ (1) )": "1@11",
	} {
		if got := expression(t, s); got != want {
			t.Errorf("%q: %s, want %s", s, got, want)
		}
	}
	e := body(t, " 0x1Fu;")[0].E
	if want := (Expr{Op: Num, At: 9, Tok: lex.Token{Kind: lex.Number, Text: "0x1Fu", At: 9, Value: 31, Unsigned: true}}); !reflect.DeepEqual(*e, want) {
		t.Errorf("%+v", e)
	}
	if e, want := body(t, "x;")[0].E, (Expr{Op: Var, At: 8, Text: "x"}); !reflect.DeepEqual(*e, want) {
		t.Errorf("%+v", e)
	}
}

func TestPostfixes(t *testing.T) {
	for s, want := range map[string]string{
		"f()": "(call@1 f@0)", "f(1)": "(call@1 f@0 1@2)", "f(a, b=c, d)": "(call@1 f@0 a@2 (=@6 b@5 c@7) d@10)", "a[i]": "(index@1 a@0 i@2)", "a[i = 1]": "(index@1 a@0 (=@4 i@2 1@6))",
		"a.b": "(.b@1 a@0)", "a -> b": "(->b@2 a@0)", "a++": "(post++@1 a@0)", "a--": "(post--@1 a@0)",
		"a[1].b->c(2)++ --": "(post--@15 (post++@12 (call@9 (->c@6 (.b@4 (index@1 a@0 1@2))) 2@10)))",
		"(f)(x)":            "(call@3 f@1 x@4)", "(a + b)[1]": "(index@7 (+@3 a@1 b@5) 1@8)", "1[a]": "(index@1 1@0 a@2)", "f()()": "(call@3 (call@1 f@0))", "'a'.b": "(.b@3 'a'@0)",
	} {
		if got := expression(t, s); got != want {
			t.Errorf("%q: %s, want %s", s, got, want)
		}
	}
}

func TestPrefixes(t *testing.T) {
	for s, want := range map[string]string{
		"-a": "(unary-@0 a@1)", "~a": "(unary~@0 a@1)", "!a": "(unary!@0 a@1)", "*a": "(unary*@0 a@1)", "&a": "(unary&@0 a@1)", "++a": "(pre++@0 a@2)", "--a": "(pre--@0 a@2)",
		"- -a": "(unary-@0 (unary-@2 a@3))", "*&*a": "(unary*@0 (unary&@1 (unary*@2 a@3)))", "-++!a": "(unary-@0 (pre++@1 (unary!@3 a@4)))", "++--a": "(pre++@0 (pre--@2 a@4))",
		"*a++": "(unary*@0 (post++@2 a@1))", "-a[1]": "(unary-@0 (index@2 a@1 1@3))", "&a.b": "(unary&@0 (.b@2 a@1))", "(-a)[1]": "(index@4 (unary-@1 a@2) 1@5)", "!(a)": "(unary!@0 a@2)",
		"-a*b": "(*@2 (unary-@0 a@1) b@3)", "a&&&b": "(and@1 a@0 (unary&@3 b@4))", "a- -b": "(-@1 a@0 (unary-@3 b@4))", "a---b": "(-@3 (post--@1 a@0) b@4)", "a**b": "(*@1 a@0 (unary*@2 b@3))",
		"(int)a": "(cast int@0 a@5)", "(secret unsigned char * *)a": "(cast secret unsigned char**@0 a@26)", "(struct s*)a->b": "(cast struct s*@0 (->b@12 a@11))", "(int)-a": "(cast int@0 (unary-@5 a@6))",
		"(int)(long)a": "(cast int@0 (cast long@5 a@11))", "(void)f(x)": "(cast void@0 (call@7 f@6 x@8))", "(int)a+b": "(+@6 (cast int@0 a@5) b@7)", "((int)a)[1]": "(index@8 (cast int@1 a@6) 1@9)", "(int)(a)": "(cast int@0 a@6)", "-(int)a": "(unary-@0 (cast int@1 a@6))",
		"sizeof(int)": "(sizeof int@0)", "sizeof ( struct s * )": "(sizeof struct s*@0)", "sizeof(int)-1": "(-@11 (sizeof int@0) 1@12)", "-sizeof(int)": "(unary-@0 (sizeof int@1))", "sizeof(int)*a": "(*@11 (sizeof int@0) a@12)", "(sizeof(int))[a]": "(index@13 (sizeof int@1) a@14)",
	} {
		if got := expression(t, s); got != want {
			t.Errorf("%q: %s, want %s", s, got, want)
		}
	}
}

// levels are the binary operators, the loosest first, as the chapter lists them.
func levels() [][]string {
	l := [][]string{}
	for _, s := range strings.Split("|| ; && ; | ; ^ ; & ; == != ; < > <= >= ; << >> ; + - ; * / %", ";") {
		l = append(l, strings.Fields(s))
	}
	return l
}

func operatorName(op string) string {
	switch op {
	case "&&":
		return "and"
	case "||":
		return "or"
	}
	return op
}

// TestLevels holds each pair of binary operators against their levels.
func TestLevels(t *testing.T) {
	for i, l := range levels() {
		for _, a := range l {
			for j, k := range levels() {
				for _, b := range k {
					x, y := operatorName(a), operatorName(b)
					want := "(" + y + " (" + x + " p q) r)"
					if j > i {
						want = "(" + x + " p (" + y + " q r))"
					}
					if got := plain(expression(t, "p"+a+" q "+b+"r")); got != want {
						t.Errorf("%s %s: %s, want %s", a, b, got, want)
					}
				}
			}
		}
	}
}

func TestBinaries(t *testing.T) {
	for s, want := range map[string]string{
		"a + b":               "(+@2 a@0 b@4)",
		"a-b-c":               "(-@3 (-@1 a@0 b@2) c@4)",
		"a-(b-c)":             "(-@1 a@0 (-@4 b@3 c@5))",
		"(a+b)*c":             "(*@5 (+@2 a@1 b@3) c@6)",
		"a*b+c*d":             "(+@3 (*@1 a@0 b@2) (*@5 c@4 d@6))",
		"a||b&&c|d^e&f==g<h":  "(or@1 a@0 (and@4 b@3 (|@7 c@6 (^@9 d@8 (&@11 e@10 (==@13 f@12 (<@16 g@15 h@17)))))))",
		"a*b+c<<d<e==f&g^h|i": "(|@17 (^@15 (&@13 (==@10 (<@8 (<<@5 (+@3 (*@1 a@0 b@2) c@4) d@7) e@9) f@12) g@14) h@16) i@18)",
		"a<b>c<=d>=e":         "(>=@8 (<=@5 (>@3 (<@1 a@0 b@2) c@4) d@7) e@10)",
		"a==b!=c":             "(!=@4 (==@1 a@0 b@3) c@6)",
		"a<<b>>c":             "(>>@4 (<<@1 a@0 b@3) c@6)",
		"a*b/c%d":             "(%@5 (/@3 (*@1 a@0 b@2) c@4) d@6)",
		"a||b||c":             "(or@4 (or@1 a@0 b@3) c@6)",
		"a&&b&&c":             "(and@4 (and@1 a@0 b@3) c@6)",
		"1-2*3+4":             "(+@5 (-@1 1@0 (*@3 2@2 3@4)) 4@6)",
		"a+b+c*d*e-f":         "(-@9 (+@3 (+@1 a@0 b@2) (*@7 (*@5 c@4 d@6) e@8)) f@10)",
		"a=b||c":              "(=@1 a@0 (or@3 b@2 c@5))",
		"a||b=c":              "(=@4 (or@1 a@0 b@3) c@5)",
		"a ? b : c":           "(cond@2 a@0 b@4 c@8)",
		"a||b?c:d":            "(cond@4 (or@1 a@0 b@3) c@5 d@7)",
		"a?b:c?d:e":           "(cond@1 a@0 b@2 (cond@5 c@4 d@6 e@8))",
		"a?b?c:d:e":           "(cond@1 a@0 (cond@3 b@2 c@4 d@6) e@8)",
		"a?b=c:d":             "(cond@1 a@0 (=@3 b@2 c@4) d@6)",
		"a?b:c=d":             "(=@5 (cond@1 a@0 b@2 c@4) d@6)",
		"a=b?c:d":             "(=@1 a@0 (cond@3 b@2 c@4 d@6))",
		"a?b:c||d":            "(cond@1 a@0 b@2 (or@5 c@4 d@7))",
		"a = b = c":           "(=@2 a@0 (=@6 b@4 c@8))",
		"a+=b-=c":             "(+=@1 a@0 (-=@4 b@3 c@6))",
		"a+b=c":               "(=@3 (+@1 a@0 b@2) c@4)",
		"f(a)[1]=-b":          "(=@7 (index@4 (call@1 f@0 a@2) 1@5) (unary-@8 b@9))",
		"(a=b)=c":             "(=@5 (=@2 a@1 b@3) c@6)",
		"(a?b:c)?d:e":         "(cond@7 (cond@2 a@1 b@3 c@5) d@8 e@10)",
		"(int)a?(b):(char*)c": "(cond@6 (cast int@0 a@5) b@8 (cast char*@11 c@18))",
	} {
		if got := expression(t, s); got != want {
			t.Errorf("%q: %s, want %s", s, got, want)
		}
	}
}

func TestAssignments(t *testing.T) {
	for _, op := range strings.Fields("= += -= *= /= %= &= |= ^= <<= >>=") {
		e := body(t, "a"+op+" b;")[0].E
		want := Expr{Op: Assign, At: 9, Text: op[:len(op)-1], Kids: []*Expr{{Op: Var, At: 8, Text: "a"}, {Op: Var, At: 10 + len(op), Text: "b"}}}
		if !reflect.DeepEqual(*e, want) {
			t.Errorf("%s: %+v", op, e)
		}
	}
	for _, op := range strings.Fields("== != <= >=") {
		if e := body(t, "a"+op+" b;")[0].E; e.Op != Bin || e.Text != op {
			t.Errorf("%s: %+v", op, e)
		}
	}
}

func TestNoExpressions(t *testing.T) {
	for _, s := range []string{
		"@;", "a @b;", "a @1;", "1 @a;", "a@,b;", "a@)", "a@]", "a@}", "@int;", "@case;", "@else;", "@{};", "@[a];", "@.a;", "@->a;", "a@{};", "a@",
		"(@);", "(a@;", "(a@,b);", "(a @b);", "((a)@;", "(a)@);", "(a) @b;",
		"f(@,a);", "f(a,@);", "f(a,@,b);", "f(a@;b);", "f(@;", "f(a @b", "f((a@,b));", "f(@int);", "f(a, @int);", "f(@return);", "f(a)@{}",
		"a[@];", "a[b@,c];", "a[b@;", "a[b@);", "a[@int];", "a.@1;", "a.@int;", "a.@;", "a.@(b);", "a->@(b);", "a->@*b;", "a.b.@.c;", "a++ @b;",
		"@+a;", "@/a;", "@=a;", "@?a:b;", "a+@;", "a+@);", "a*@/b;", "a@!b;", "a@~b;", "a< @<=b;", "a= @=b;", "a== @=b;", "a+=@;", "a&&@;", "a||@||b;", "a+@int;", "-@;", "! @=a;", "++@;", "--@);", "&@;",
		"a?@:b;", "a?b@;", "a?b@);", "a?b:@;", "a?b:c@:d;", "a@:b;", "a?b@,c:d;", "a?(b@:c);",
		"sizeof @a;", "sizeof @int;", "sizeof(@a);", "sizeof(@);", "sizeof(@1);", "sizeof(int @a);", "sizeof(int@;", "sizeof(int@[1]);", "sizeof(int@(*)());", "sizeof(int*@(*)());", "sizeof(int)@[1];", "sizeof(int)@++;", "sizeof(int) @a;", "sizeof(int)@(a);", "sizeof(int)@.a;",
		"(int@[2])a;", "(int@(*)())a;", "(int)@;", "(int)@+a;", "(int @x)a;", "(int@;", "(int@+1);", "(int@,a);", "(secret@)a;", "(struct@)a;", "(int)(int)@;", "(int)@{};",
	} {
		fails(t, "int f(){ x = "+s, api.ErrParse)
	}
}
