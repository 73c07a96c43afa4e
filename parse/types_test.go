package parse

import (
	"reflect"
	"strconv"
	"testing"

	"merlon/api"
)

func TestSpecs(t *testing.T) {
	for s, want := range map[string]Spec{
		"char": {Word: "char"}, "short": {Word: "short"}, "int": {Word: "int"}, "long": {Word: "long"}, "void": {Word: "void"}, "struct s": {Word: "struct", Struct: "s"},
		"signed": {Word: "int"}, "signed char": {Word: "char"}, "signed short": {Word: "short"}, "signed int": {Word: "int"}, "signed long": {Word: "long"},
		"unsigned": {Word: "int", Unsigned: true}, "unsigned char": {Word: "char", Unsigned: true}, "unsigned short": {Word: "short", Unsigned: true}, "unsigned int": {Word: "int", Unsigned: true}, "unsigned long": {Word: "long", Unsigned: true},
	} {
		for prefix, secret := range map[string]bool{"": false, "public ": false, "secret ": true} {
			want := TypeExpr{Spec: want}
			want.Spec.Secret = secret
			holdType(t, prefix+s, want)
		}
	}
	for _, s := range []string{
		"int @int x;", "long @long x;", "long @int x;", "short @int x;", "int @unsigned x;", "unsigned @unsigned x;", "unsigned @signed x;", "unsigned @void x;", "unsigned @struct s x;", "unsigned int @int x;",
		"void @int x;", "int @secret x;", "secret @secret int x;", "secret @public int x;", "public @secret int x;", "secret @x;", "public @;", "secret @*x;", "unsigned @secret int x;",
		"struct @int x;", "struct @;", "struct @1 x;", "struct @*x;", "struct s @struct t x;", "struct s s @x;", "secret struct s @{};", "public struct s @{ int a; };",
	} {
		fails(t, s, api.ErrParse)
		fails(t, "int f(){"+s, api.ErrParse)
		fails(t, "struct z{"+s, api.ErrParse)
		fails(t, "int f("+s, api.ErrParse)
	}
}

// holdType checks a type in all the places where one may stand; its Spec's At is the place itself.
func holdType(t *testing.T, s string, want TypeExpr) {
	t.Helper()
	same := func(place string, got TypeExpr, at int) {
		t.Helper()
		w := want
		w.Spec.At = at
		if !reflect.DeepEqual(got, w) {
			t.Errorf("%q as a %s: %+v, want %+v", s, place, got, w)
		}
	}
	same("global", parsed(t, s+" x;").Globals[0].Decl.Type, 0)
	same("field", parsed(t, "struct t { "+s+" x; };").Structs[0].Fields[0].Type, 11)
	same("result", parsed(t, s+" f() {}").Funcs[0].Ret, 0)
	same("parameter", parsed(t, "int f("+s+" x) {}").Funcs[0].Params[0].Type, 6)
	same("local", body(t, s+" x;")[0].Decl.Type, 8)
	same("first part", body(t, "for("+s+" x;;);")[0].Kids[0].Decl.Type, 12)
	same("cast", body(t, "("+s+")x;")[0].E.Type, 9)
	same("sizeof", body(t, "sizeof("+s+");")[0].E.Type, 15)
	same("result of a pointer", TypeExpr{Spec: parsed(t, s+"(*x)();").Globals[0].Decl.Type.Spec}, 0)
	list := parsed(t, "int(*x)(int,"+s+");").Globals[0].Decl.Type.Fn
	same("type of a list", list[1], 12)
}

func TestDecls(t *testing.T) {
	for s, want := range map[string]string{
		"int x": "x@4:int", "int*x": "x@4:int*", "secret char * ** x": "x@17:secret char***", "int x[3]": "x@4:int[3]", "struct s*x[1][2][3][4]": "x@9:struct s*[1][2][3][4]", "long x[4096]": "x@5:long[4096]", "int x['a'][0x10u]": "x@4:int[97][16]",
		"int(*x)()": "x@5:int(*)()", "int(*x)(void)": "x@5:int(*)()", "void(*x)(void*)": "x@6:void(*)(void*)", "int**(*x)(int, secret unsigned char*, struct s*)": "x@7:int**(*)(int,secret unsigned char*,struct s*)",
		"int (*x[2][3])(long)": "x@6:int[2][3](*)(long)", "int(*x)(void,int)": "x@5:int(*)(void,int)", "int(*x)(secret void)": "x@5:int(*)(secret void)", "int(*x)(int,void)": "x@5:int(*)(int,void)", "int(*x)(int,int,int,int,int,int)": "x@5:int(*)(int,int,int,int,int,int)",
	} {
		for prefix, get := range map[string]func(u *Unit) Decl{
			"":            func(u *Unit) Decl { return u.Globals[0].Decl },
			"struct t { ": func(u *Unit) Decl { return u.Structs[0].Fields[0] },
			"int g(":      func(u *Unit) Decl { return u.Funcs[0].Params[0] },
			"int g(){":    func(u *Unit) Decl { return u.Funcs[0].Body.Kids[0].Decl },
		} {
			end := map[string]string{"": ";", "struct t { ": "; };", "int g(": "){}", "int g(){": ";}"}[prefix]
			d := get(parsed(t, prefix+s+end))
			if got := d.Name + "@" + strconv.Itoa(d.At-len(prefix)) + ":" + showType(d.Type); got != want {
				t.Errorf("%q%q: %s, want %s", prefix, s, got, want)
			}
		}
	}
	for _, s := range []string{
		"int@;", "int*@;", "int @1;", "int x @y;", "int x@*;", "int @[1]x;", "int x[@];", "int x[@y];", "int x[1@;", "int x[1@+1];", "int x[@-1];", "int x[1@,2];",
		"int (@x)();", "int (@)x;", "int (@int);", "int (*@)();", "int (*@*x)();", "int (*@[1])();", "int (*x@;", "int (*x@()());", "int (*x)@;", "int (*x)@[1];", "int (*x)@=1;",
		"int (*x)(@x);", "int (*x)(int @y);", "int (*x)(int,@);", "int (*x)(@,int);", "int (*x)(int @int);", "int (*x)(int@[1]);", "int (*x)(int@(*)());", "int (*x)(void @y);", "int (*x)(int@", "int (*x)()@[1];", "int (*x)()@();", "int (*x)()@{}",
	} {
		fails(t, s, api.ErrParse)
		fails(t, "struct z{"+s, api.ErrParse)
		fails(t, "int z(){"+s, api.ErrParse)
		fails(t, "int z("+s, api.ErrParse)
	}
}
