package parse

import (
	"reflect"
	"strconv"
	"strings"
	"testing"

	"merlon/api"
	"merlon/lex"
)

// showUnit is a unit's parts, each in a line.
func showUnit(u *Unit) string {
	l := []string{}
	for _, s := range u.Structs {
		l = append(l, "struct "+s.Name+"@"+strconv.Itoa(s.At)+showDecls(s.Fields))
	}
	for _, g := range u.Globals {
		l = append(l, "global"+showDecls([]Decl{g.Decl})+" "+showInit(g.Init))
	}
	for _, f := range u.Funcs {
		l = append(l, "function "+f.Name+"@"+strconv.Itoa(f.At)+":"+showType(f.Ret)+showDecls(f.Params)+" "+showStmt(f.Body))
	}
	return strings.Join(l, "\n")
}

func showDecls(l []Decl) string {
	s := ""
	for _, d := range l {
		s += " " + d.Name + "@" + strconv.Itoa(d.At) + ":" + showType(d.Type)
	}
	return s
}

func TestUnits(t *testing.T) {
	for s, want := range map[string]string{
		"struct s {};": "struct s@7",
		"struct s { int a; secret char *b[2]; struct s *c; int (*d)(void); };": "struct s@7 a@15:int b@31:secret char*[2] c@47:struct s* d@56:int(*)()",
		"struct s {}; struct s {}; struct t{};":                                "struct s@7\nstruct s@20\nstruct t@33",
		"int x;":                                                               "global x@4:int none",
		"int x = 1;":                                                           "global x@4:int 1@8@8",
		"struct s x;":                                                          "global x@9:struct s none",
		"struct s *x;":                                                         "global x@10:struct s* none",
		"public int x[2];":                                                     "global x@11:int[2] none",
		"int (*x)(int) = f;":                                                   "global x@6:int(*)(int) f@16@16",
		"int (*x[2])() = {f,&g};":                                              "global x@6:int[2](*)() {f@17@17 (unary&@19 g@20)@19}@16",
		"int x = a ? b : -c;":                                                  "global x@4:int (cond@10 a@8 b@12 (unary-@16 c@17))@8",
		"int x = (1);":                                                         "global x@4:int 1@9@8",
		"int x = {};":                                                          "global x@4:int {}@8",
		"int x = {1};":                                                         "global x@4:int {1@9@9}@8",
		"int x = {1,};":                                                        "global x@4:int {1@9@9}@8",
		"int x={1,{2,3,},{},4};":                                               "global x@4:int {1@7@7 {2@10@10 3@12@12}@9 {}@16 4@19@19}@6",
		"int f() {}":                                                           "function f@4:int {block@8}",
		"void f(void) {}":                                                      "function f@5:void {block@13}",
		"int**f(int a,char*b){}":                                               "function f@5:int** a@11:int b@18:char* {block@20}",
		"struct s f(void a) {}":                                                "function f@9:struct s a@16:void {block@19}",
		"int f(void*a,void b){}":                                               "function f@4:int a@11:void* b@18:void {block@20}",
		"int f(int(*a)(int),int b[3]){return;}":                                "function f@4:int a@11:int(*)(int) b@23:int[3] {block@28 [{return@29}]}",
		"int f(int a,int b,int c,int d,int e,int g){}":                         "function f@4:int a@10:int b@16:int c@22:int d@28:int e@34:int g@40:int {block@42}",
		"int f(){} int f(){} int f;":                                           "global f@24:int none\nfunction f@4:int {block@7}\nfunction f@14:int {block@17}",
		"int x; struct s{int y;}; int f(){} int z=1; struct t{};": "struct s@14 y@20:int\nstruct t@51\nglobal x@4:int none\nglobal z@39:int 1@41@41\nfunction f@29:int {block@32}",
	} {
		if got := showUnit(parsed(t, s)); got != want {
			t.Errorf("%q: %s, want %s", s, got, want)
		}
	}
}

func TestNoUnits(t *testing.T) {
	for _, s := range []string{
		"@x;", "@;", "@1", "@{}", "@)", "int x;@;", "int x; @x;", "int f(){}@;", "int f(){}@}", "@if(a);", "@sizeof(int);", "@return;",
		"int@", "int@;", "int x@", "int x@{}", "int x@)", "int x@,y;", "int x @y;", "int x=@", "int x=@;", "int x=1@", "int x=1@,y;", "int x=1 @int y;", "int x=@int;", "int x=y@=1;", "int x @1;", "int x@+=1;", "int x[2]@(){}", "int (*x)()@(){}", "int (*x)()@{}", "int (@x)(){}",
		"int x={@,};", "int x={1,@,};", "int x={1@;", "int x={1 @2};", "int x={@;", "int x={1}@,2;", "int x={1}@+1;", "int x={a@=1};", "int x={1,@", "int x={{1}@{2}};", "int x={@", "int x={@.a=1};", "int x=(@{1});",
		"int f(@", "int f(@x){}", "int f(int@){}", "int f(int a@", "int f(int a@;){}", "int f(int a,@){}", "int f(@,int a){}", "int f(int a @b){}", "int f(void@,int a){}", "int f(secret void@){}", "int f(void*@){}", "int f(int a,void@){}", "int f(int a@=1){}", "int f(int a@(int)){}", "int f(struct s@{}a){}", "int f(@...){}",
		"int f()@", "int f()@;", "int f()@,g();", "int f()@=1;", "int f()@[1]{}", "int f()@(){}", "int f() @return;", "int f() @int x;{}", "int f(){@", "int f(){;@", "int f(){int g@(){}}",
		"struct@", "struct @{};", "struct s@", "struct s@;", "struct @1{};", "struct s{}@", "struct s{} @x;", "struct s{@;};", "struct s{@x;};", "struct s{int@;};", "struct s{int a@};", "struct s{int a@,b;};", "struct s{int a@=1;};", "struct s{int a;@", "struct s{int f@();};", "struct s{int f@(){}};", "struct s{struct t@{}a;};", "struct s{int a;}@=1;", "struct s{@return;};", "secret struct s@{};",
	} {
		fails(t, s, api.ErrParse)
	}
}

// TestWholeUnit holds a source with each kind of part against its tree, in all fields.
func TestWholeUnit(t *testing.T) {
	s := "struct s{int a;};long g[2]={1,2u};int f(struct s*p){for(int i=0;;i++)p->a+=i;switch(g[1]){case 3:default:;}}"
	integer := func(at int) TypeExpr { return TypeExpr{Spec: Spec{Word: "int", At: at}} }
	name := func(at int, text string) *Expr { return &Expr{Op: Var, At: at, Text: text} }
	number := func(at int, text string, value uint64, unsigned bool) *Expr {
		return &Expr{Op: Num, At: at, Tok: lex.Token{Kind: lex.Number, Text: text, At: at, Value: value, Unsigned: unsigned}}
	}
	loop := &Stmt{Kind: For, At: 52, Step: &Expr{Op: Post, At: 66, Text: "++", Kids: []*Expr{name(65, "i")}}, Kids: []*Stmt{
		{Kind: Let, At: 56, Decl: Decl{Type: integer(56), Name: "i", At: 60}, E: number(62, "0", 0, false)},
		{Kind: Do, At: 69, E: &Expr{Op: Assign, At: 73, Text: "+", Kids: []*Expr{{Op: Arrow, At: 70, Text: "a", Kids: []*Expr{name(69, "p")}}, name(75, "i")}}},
	}}
	choose := &Stmt{Kind: Switch, At: 77, E: &Expr{Op: Index, At: 85, Kids: []*Expr{name(84, "g"), number(86, "1", 1, false)}}, Cases: []Case{
		{Values: []*Expr{number(95, "3", 3, false)}, Default: true, At: 90, Body: []*Stmt{{Kind: Empty, At: 105}}},
	}}
	want := &Unit{
		Structs: []StructDef{{Name: "s", At: 7, Fields: []Decl{{Type: integer(9), Name: "a", At: 13}}}},
		Globals: []Global{{
			Decl: Decl{Type: TypeExpr{Spec: Spec{Word: "long", At: 17}, Dims: []int{2}}, Name: "g", At: 22},
			Init: &Init{At: 27, IsL: true, List: []*Init{{At: 28, E: number(28, "1", 1, false)}, {At: 30, E: number(30, "2u", 2, true)}}},
		}},
		Funcs: []FuncDef{{
			Ret: integer(34), Name: "f", At: 38,
			Params: []Decl{{Type: TypeExpr{Spec: Spec{Word: "struct", Struct: "s", At: 40}, Stars: 1}, Name: "p", At: 49}},
			Body:   &Stmt{Kind: Block, At: 51, Kids: []*Stmt{loop, choose}},
		}},
	}
	if u := parsed(t, s); !reflect.DeepEqual(u, want) {
		t.Errorf("%s\nwant\n%s", showUnit(u), showUnit(want))
	}
}
