package parse

import (
	"strconv"
	"strings"
	"testing"

	"merlon/api"
)

// times is s n times.
func times(s string, n int) string { return strings.Repeat(s, n) }

// nested is a function with s in n blocks, its own among them.
func nested(n int, s string) string { return "int f()" + times("{", n) + s + times("}", n) }

// numbered is the text for each number from 1 to n, which stands where the text has a #.
func numbered(n int, text string) string {
	var b strings.Builder
	for i := range n {
		b.WriteString(strings.ReplaceAll(text, "#", strconv.Itoa(i+1)))
	}
	return b.String()
}

// padded is a function with s behind n nodes, one of which is its block.
func padded(n int, s string) string { return inFunction(times(";", n-1) + s) }

func TestDepthOfStatements(t *testing.T) {
	parsed(t, nested(60, ""))
	parsed(t, nested(59, ";{};"))
	fails(t, "int f()"+times("{", 60)+"@{", api.ErrDepth)
	for _, s := range []string{";", "{}", "return;", "break;", "continue;", "int x;"} {
		parsed(t, nested(59, s))
		fails(t, nested(60, "@"+s), api.ErrDepth)
	}
	for _, x := range []struct{ begin, end string }{
		{"{", "}"},
		{"{;;", ";}"},
		{"if(a)", ""},
		{"if(a);else ", ""},
		{"if(a){{}}else ", ""},
		{"while(a)", ""},
		{"do ", "while(a);"},
		{"for(;;)", ""},
		{"for(int i=0;i;i++)", ""},
		{"switch(a){case 1:", "}"},
		{"switch(a){case 1:{};default:", "}"},
	} {
		// The conditions nest, too: the innermost one ends at level 60.
		parsed(t, inFunction(times(x.begin, 57)+"{;}"+times(x.end, 57)))
		fails(t, inFunction(times(x.begin, 57)+"{{@;}}"+times(x.end, 57)), api.ErrDepth)
	}
}

// TestDepthOfExpressions: a statement in a function is at level 2, its expression at 3, and an operand of that at 4.
func TestDepthOfExpressions(t *testing.T) {
	for _, x := range []struct {
		n          int // as often it may stand around a name
		begin, end string
	}{
		{56, "- ", ""},
		{56, "!", ""},
		{56, "*", ""},
		{56, "++", ""},
		{56, "(int)", ""},
		{28, "-(int*)", ""},
		{56, "a=", ""},
		{56, "a<<=", ""},
		{56, "a?", ":b"},
		{56, "a||b+c?", ":b||c"},
		{28, "(", ")"},
		{14, "((", "))"},
		{28, "a[", "]"},
		{28, "f(", ")"},
		{28, "f(1,", ",2)"},
		{28, "a+b*f(c)*(", ")+a"},
		{28, "a.b++->c[", "].d--"},
	} {
		for _, s := range []string{"x", "1", "x++", "f()", "x.y->z", "sizeof(int)", "x*x"} {
			parsed(t, inFunction(times(x.begin, x.n)+s+times(x.end, x.n)+";"))
		}
		for _, s := range []string{"~@x", "(@x)", "(int)@x", "x[@y]", "x(@y)", "++@x", "!@sizeof(int)", "x(@y,z)"} {
			fails(t, inFunction(times(x.begin, x.n)+s+times(x.end, x.n)+";"), api.ErrDepth)
		}
	}
	// The last part of a choice nests, and so does the part between the signs, which is a full expression, too.
	parsed(t, inFunction(times("a?b:", 56)+"x;"))
	fails(t, inFunction(times("a?b:", 56)+"-@x;"), api.ErrDepth)
	fails(t, inFunction(times("a?b:", 56)+"a?@b:x;"), api.ErrDepth)
	fails(t, inFunction(times("a?b:", 55)+"a?-@b:x;"), api.ErrDepth)
	// Operators between operands don't nest.
	parsed(t, inFunction("x"+times("+x*x<<x", 500)+";"))
	parsed(t, inFunction("x"+times(".y[1]", 500)+";"))
}

// TestDepthOfPlaces has the places of expressions: the operand of each is three levels below what is around the statement.
func TestDepthOfPlaces(t *testing.T) {
	for _, s := range []string{"#;", "return #;", "int a=#;", "if(#);", "if(#);else;", "while(#);", "do;while(#);", "for(#;;);", "for(int a=#;;);", "for(;#;);", "for(;;#);", "switch(#){}"} {
		parsed(t, nested(57, strings.Replace(s, "#", "x", 1)))
		fails(t, nested(57, strings.Replace(s, "#", "-@x", 1)), api.ErrDepth)
		fails(t, nested(58, strings.Replace(s, "#", "@x", 1)), api.ErrDepth)
	}
	// The value of a label isn't a full expression.
	parsed(t, nested(57, "switch(x){case -x:;}"))
	fails(t, nested(57, "switch(x){case - -@x:;}"), api.ErrDepth)
}

func TestDepthOfInits(t *testing.T) {
	parsed(t, "int x="+times("{", 60)+times("}", 60)+";")
	parsed(t, "int x="+times("{1,", 58)+"1"+times("}", 58)+";")
	parsed(t, "int x="+times("~", 58)+"1;")
	fails(t, "int x="+times("{", 60)+"@{", api.ErrDepth)
	fails(t, "int x="+times("{", 60)+"@1", api.ErrDepth)
	fails(t, "int x="+times("{", 59)+"@1", api.ErrDepth)
	fails(t, "int x="+times("{", 58)+"-@1", api.ErrDepth)
	fails(t, "int x="+times("{", 57)+"(@1)", api.ErrDepth)
	fails(t, "int x="+times("~", 59)+"@1;", api.ErrDepth)
}

// TestLevelsAreLeft has many parts that nest, one behind another.
func TestLevelsAreLeft(t *testing.T) {
	for _, s := range []string{";", "{}", "{{}}", "a;", "-a;", "(a);", "a=b;", "a?b:c;", "f(a,-b);", "a[b];", "(int)a;", "if(a);", "if(a);else;", "while(a);", "do;while(a);", "for(a;b;c);", "switch(a){case 1:;}", "return;", "return a;", "break;", "continue;", "int x=1;", "++a;", "sizeof(int);"} {
		parsed(t, nested(54, times(s, 100)))
	}
	parsed(t, inFunction("f("+times("-a,", 100)+"a);"))
	parsed(t, inFunction("switch(a){"+times("case -1:case 2:;", 30)+"}"))
	parsed(t, "int x={"+times("{1},", 100)+"};")
	parsed(t, times(nested(60, ""), 20))
	parsed(t, times("int x="+times("{", 60)+times("}", 60)+";", 20))
}

// TestNodes has texts with a mark where each of their nodes is made: a statement's ahead of it, an expression's behind it.
func TestNodes(t *testing.T) {
	for _, s := range []string{
		"@;", "@{}", "@{@;@;}", "@if(a@)@;", "@if(a@)@;else @;", "@while(a@)@;", "@do @;while(a@);", "@for(@;;)@;", "@for(@a@;b@;c@)@;", "@for(@int i=a@;;)@{}", "@switch(a@){}", "@switch(a@){case 1@:default:case -b@@:@;@;case 3@:}",
		"@break;", "@continue;", "@return;", "@return a@;", "@int x[2];", "@int x=a@;", "@int(*x)(int,char*);",
		"@a@;", "@1@;", "@(a@);", "@((a@));", "@f@()@;", "@f@(a@,b@)@;", "@a@[b@]@;", "@a@.b@;", "@a@->b@;", "@a@++@;", "@a@--@.b@;", "@-a@@;", "@++a@@;", "@!*a@@@;", "@sizeof(int*)@;", "@(int)a@@;",
		"@a@+b@@;", "@a@&&b@@;", "@a@||b@@;", "@a@?b@:c@@;", "@a@?b@:c@?d@:e@@@;", "@a@=b@@;", "@a@+=b@=c@@@;", "@a@+b@@+c@@;", "@a@+b@*c@@@-d@@;", "@-a@[b@]@@*c@@;", "@(a@+b@@)*c@@;", "@-(int)a@.b@@@;",
	} {
		holdNodes(t, s, func(n int, s string) string { return padded(n, s) })
	}
	for _, s := range []string{
		"int x=@1@;", "int x=@{};", "int x=@a@+b@@;", "int x[2]=@{@1@,@{@b@}};", "int x;int g(int a,int(*b)(int))@{@;}struct s{int a;};",
	} {
		holdNodes(t, s, func(n int, s string) string { return padded(n, "") + s })
	}
}

// holdNodes checks that each node of a text is the one too many where so many nodes are ahead of the text, and that all of them fit where one fewer is.
func holdNodes(t *testing.T, marked string, behind func(n int, s string) string) {
	t.Helper()
	parts := strings.Split(marked, "@")
	count := len(parts) - 1
	parsed(t, behind(api.MaxNodes-count, strings.Join(parts, "")))
	for i := range count {
		fails(t, behind(api.MaxNodes-i, strings.Join(parts[:i+1], "")+"@"+strings.Join(parts[i+1:], "")), api.ErrSize)
	}
}

// TestFirstOfSeveralErrors has tokens that are wrong in more than one way.
func TestFirstOfSeveralErrors(t *testing.T) {
	// Too many nodes, and no unit can go on.
	for _, s := range []string{"@)", "@else;", "@case 1:", "@"} {
		fails(t, "int f(){"+times(";", 5999)+s, api.ErrSize)
		fails(t, "int f(){"+times(";", 5998)+s, api.ErrParse)
	}
	fails(t, padded(5999, "a @b;"), api.ErrSize)
	fails(t, padded(5998, "a @b;"), api.ErrParse)
	fails(t, padded(6000, "")+"int g=@;", api.ErrSize)
	fails(t, padded(5999, "")+"int g=@;", api.ErrParse)
	fails(t, padded(5998, "for(@);"), api.ErrParse)
	fails(t, padded(5999, "for(@);"), api.ErrSize)
	// Too many nodes, and too deep.
	fails(t, inFunction(times(";", 5940)+times("{", 59)+"@{"), api.ErrSize)
	fails(t, inFunction(times(";", 5939)+times("{", 59)+"@{"), api.ErrDepth)
	fails(t, padded(5940, "")+"int g="+times("{", 60)+"@{", api.ErrSize)
	fails(t, padded(5939, "")+"int g="+times("{", 60)+"@{", api.ErrDepth)
	// Too deep, and no unit can go on.
	fails(t, "int f()"+times("{", 60)+"@)", api.ErrDepth)
	fails(t, "int f()"+times("{", 60)+"@", api.ErrDepth)
	fails(t, "int f()"+times("{", 59)+"return @)", api.ErrDepth)
	fails(t, "int f()"+times("{", 57)+"return @)", api.ErrParse)
	fails(t, "int g="+times("{", 60)+"@;", api.ErrDepth)
	fails(t, "int g="+times("{", 58)+"@;", api.ErrParse)
	// What begins no statement.
	fails(t, padded(6000, "")+"int g()@;", api.ErrParse)
	fails(t, padded(6000, "")+"int g()@return;", api.ErrParse)
	fails(t, padded(6000, "")+"int g()@", api.ErrParse)
	fails(t, padded(6000, "")+"int g()@{", api.ErrSize)
	fails(t, padded(5998, "switch(a){@;}"), api.ErrParse)
	fails(t, padded(5998, "switch(a){@{}}"), api.ErrParse)
	fails(t, padded(5998, "switch(a){default:@;}"), api.ErrSize)
}

func TestParamLimit(t *testing.T) {
	six := "int a,int*b,int c,long d,int(*e)(int),struct s g"
	for _, place := range []string{"int f(%){}", "int x;void f(%){}"} {
		in := func(s string) string { return strings.Replace(place, "%", six+s, 1) }
		parsed(t, in(""))
		for _, s := range []string{",int h@", ",int*h@,int i", ",int h@,", ",int h@;", ",void**h @i", ",int h@=1", ",int h[2]@", ",int(*h)(void)@"} {
			fails(t, in(s), api.ErrCount)
		}
		for _, s := range []string{",@", ",@1", ",int@", ",int h[@]", ",int(*h)(@1)"} {
			fails(t, in(s), api.ErrParse)
		}
		fails(t, in(",int h[@0]"), api.ErrConst)
		fails(t, in(",int(*h)(int,int,int,int,int,int,int@)"), api.ErrCount)
	}
	fails(t, "int f("+six+",int h@", api.ErrCount)
	// Each list has a limit of its own, and calls have none.
	parsed(t, "int f("+times("int(*a)(int,int,int,int,int,int),", 5)+"int(*a)(int,int,int,int,int,int)){f("+times("a,", 99)+"a);}")
}

func TestTypesLimit(t *testing.T) {
	six := "int,int*,secret int,long,int**,struct s"
	for _, place := range []string{"int(*f)(%);", "int f(int(*f)(%)){}", "struct s{int(*f)(%);};", "int f(){int(*f)(%)=0;}"} {
		in := func(s string) string { return strings.Replace(place, "%", six+s, 1) }
		parsed(t, in(""))
		for _, s := range []string{",int@", ",int**@,int", ",int@,", ",void@;", ",int @x", ",struct s@[1]", ",int@(*)()"} {
			fails(t, in(s), api.ErrCount)
		}
		for _, s := range []string{",@", ",@1", ",struct@"} {
			fails(t, in(s), api.ErrParse)
		}
	}
	fails(t, "int(*f)("+six+",int*@", api.ErrCount)
}

func TestFunctionLimit(t *testing.T) {
	sixty := numbered(60, "int f#(){}")
	parsed(t, sixty)
	parsed(t, sixty+numbered(60, "int g#;")+numbered(100, "struct s#{};"))
	for _, s := range []string{"int @g(){}", "int *@g(void){return;}", "struct s @g(int a){} x", "void @g(){}int h(){}"} {
		fails(t, sixty+s, api.ErrCount)
		fails(t, numbered(59, "int f#(){}")+"int x;int y(){}"+s, api.ErrCount)
	}
	for _, s := range []string{"int g(){@)", "int g()@;", "int g(@1){}", "int g(){;@"} {
		fails(t, sixty+s, api.ErrParse)
	}
	fails(t, sixty+"int g(){int a[@0];}", api.ErrConst)
	fails(t, sixty+nested(60, "@;"), api.ErrDepth)
}

func TestGlobalLimit(t *testing.T) {
	sixty := numbered(60, "int g#;")
	parsed(t, sixty)
	parsed(t, sixty+"int f(int a){"+numbered(100, "int a#;")+"}struct s{"+numbered(100, "int a#;")+"};")
	for _, s := range []string{"int @x;", "int *@x=1;", "int (*@x[2])()={f,}; )", "struct s @x;int y;"} {
		fails(t, sixty+s, api.ErrCount)
		fails(t, numbered(59, "int g#={#};")+"int f(){int a;}int y;"+s, api.ErrCount)
	}
	for _, s := range []string{"int x@}", "int x=@;", "int x={1@;", "int x@", "int @;"} {
		fails(t, sixty+s, api.ErrParse)
	}
	fails(t, sixty+"int x[@4097];", api.ErrConst)
	fails(t, sixty+"int x="+times("{", 60)+"@1", api.ErrDepth)
}

func TestDimLimits(t *testing.T) {
	for _, place := range []string{"%;", "struct s{%;};", "int f(%){}", "int f(){%;}", "int f(){for(%;;);}"} {
		in := func(s string) string { return strings.Replace(place, "%", s, 1) }
		for _, s := range []string{"int x[1]", "int x[4096]", "int x[0x1000ul]", "int x['~']", "int x[4096][4096][4096][4096]", "int(*x[1][2][3][4])(int)"} {
			parsed(t, in(s))
		}
		for _, s := range []string{"int x[@0]", "int x[@4097]", "int x[@00ul]", "int x[@0x0]", "int x[@'\\0']", "int x[@4294967297]", "int x[@18446744073709551615]", "int x[1][2][3][@0]", "int x[1][2][3][4][@0]", "int x[1][2][3][4][@4097]", "int(*x[@0])()", "int x[@0;", "int x[1][@5000"} {
			fails(t, in(s), api.ErrConst)
		}
		for _, s := range []string{"int x[1][1][1][1][@1]", "int x[4096][1][1][1][@4096][1]", "int(*x[1][2][3][4][@5])()", "int x[1][2][3][4][@5;"} {
			fails(t, in(s), api.ErrCount)
		}
		fails(t, in("int x[1][2][3][4][@]"), api.ErrParse)
		fails(t, in("int x[1][2][3][4][@y]"), api.ErrParse)
	}
	parsed(t, "int x[1][2][3];int y[1][2][3];")
}

func TestGroupLimit(t *testing.T) {
	in := func(s string) string { return inFunction("switch(a){" + numbered(60, "case #:;") + s) }
	parsed(t, in("}"))
	parsed(t, in("a;b;}switch(b){"+numbered(59, "case #:;")+"default:}"))
	parsed(t, inFunction("switch(a){"+numbered(59, "case #:;")+"case 60:switch(b){"+numbered(60, "case #:;")+"}}"))
	for _, s := range []string{"@case 61:;}", "@default:;}", "a;@case 61:}", "@case )", "@case 1;", "@default;", "@case"} {
		fails(t, in(s), api.ErrCount)
	}
	fails(t, in("@)"), api.ErrParse)
}

func TestValueLimit(t *testing.T) {
	in := func(s string) string { return inFunction("switch(a){case 0:;" + numbered(60, "case #:") + s) }
	parsed(t, in("}"))
	parsed(t, in("default:;}"))
	parsed(t, in(";case 61:case 62:}"))
	for _, s := range []string{"@case 61:;}", "default:@case 61:;}", "@case 1+2:}", "@case 61;", "@case a?b:c", "@case 1:)"} {
		fails(t, in(s), api.ErrCount)
	}
	for _, s := range []string{"case @)", "case 1+@:", "case @", "case a?b@;"} {
		fails(t, in(s), api.ErrParse)
	}
	fails(t, in("default:@default:"), api.ErrJump)
}

func TestSecondDefault(t *testing.T) {
	for _, s := range []string{"default:@default:;", "default:case 1:@default:", "case 1:default:case 2:case 3:@default", "default:@default;", "case 1:;default:@default 1"} {
		fails(t, inFunction("switch(a){"+s+"}"), api.ErrJump)
	}
	parsed(t, inFunction("switch(a){default:;default:;case 1:default:{}default:}"))
	parsed(t, inFunction("switch(a){default:switch(b){default:;}}"))
	fails(t, inFunction("switch(a){default @default:}"), api.ErrParse)
}
