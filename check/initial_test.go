package check

import (
	"slices"
	"testing"

	"merlon/api"
)

const beside = " struct s { char a; secret int b; }; struct r { struct s x[2]; int (*f)(int); char *p; }; int f(int a) { return a; } int g(int a) { return a; } void h() {} secret int k; int t[2]; int v; int *pv; struct s z;" + end

func TestInitialBytes(t *testing.T) {
	for text, want := range map[string][]byte{
		"int a;":                        {0, 0, 0, 0},
		"int a = 1;":                    {1, 0, 0, 0},
		"int a = -2;":                   {254, 255, 255, 255},
		"long a = -2;":                  {254, 255, 255, 255, 255, 255, 255, 255},
		"long a = 4294967295u;":         {255, 255, 255, 255, 0, 0, 0, 0},
		"unsigned long a = -1;":         {255, 255, 255, 255, 255, 255, 255, 255},
		"char a = 300;":                 {44},
		"short a = 0x12345;":            {0x45, 0x23},
		"secret int a = 0x01020304;":    {4, 3, 2, 1},
		"int a = (secret int) 7;":       {7, 0, 0, 0},
		"int a = (char) 200;":           {200, 255, 255, 255},
		"int a = (unsigned char) 200;":  {200, 0, 0, 0},
		"char a = sizeof(struct r);":    {32},
		"char a = 1 + 2 * 3 << 1;":      {14},
		"char a = 7 / 2 + -7 % 4;":      {0},
		"char a = ~1 & !0 | !5 ^ 8;":    {8},
		"char a = 1 < 2 == 1u >= 0;":    {1},
		"int a = -2147483647 - 1 / -1;": {2, 0, 0, 128},
		"char a = 'a';":                 {97},
		"char a = 1ul << 66;":           {4},
		"char a[3] = {1, 2, 3};":        {1, 2, 3},
		"char a[3] = {1, 2, };":         {1, 2, 0},
		"char a[3] = {};":               {0, 0, 0},
		"char a[2][2] = {{1}, {2, 3}};": {1, 0, 2, 3},
		"short a[2] = {-1, 1};":         {255, 255, 1, 0},
		"struct s a = {1, 2};":          {1, 0, 0, 0, 2, 0, 0, 0},
		"struct s a = {1};":             {1, 0, 0, 0, 0, 0, 0, 0},
		"struct s a = {};":              {0, 0, 0, 0, 0, 0, 0, 0},
		"struct s a[2] = {{}, {3, 4}};": {0, 0, 0, 0, 0, 0, 0, 0, 3, 0, 0, 0, 4, 0, 0, 0},
		"int *a = 0;":                   {0, 0, 0, 0, 0, 0, 0, 0},
		"void *a = '\\0';":              {0, 0, 0, 0, 0, 0, 0, 0},
		"int (*a)(int) = f;":            {0, 0, 0, 0, 0, 0, 0, 0},
	} {
		p := passes(t, text+beside)
		if g := p.Globals[0]; !slices.Equal(g.Data, want) || g.Init != (text != "int a;") {
			t.Errorf("%s: %v, %v, want %v", text, g.Data, g.Init, want)
		}
	}
}

func TestInitialFunctions(t *testing.T) {
	for text, want := range map[string][]FuncAt{
		"int (*a)(int) = f;":                                {{0, 0}},
		"int (*a)(int) = &g;":                               {{0, 1}},
		"int (*a)(int) = &(&g);":                            {{0, 1}},
		"int (*a)(int) = 0;":                                nil,
		"void (*a)() = h;":                                  {{0, 2}},
		"int (*a[3])(int) = {g, 0, f};":                     {{0, 1}, {16, 0}},
		"int (*a[2][2])(int) = {{0, g}, {f}};":              {{8, 1}, {16, 0}},
		"struct r a = {{{1, 2}}, g, 0};":                    {{16, 1}},
		"struct r a[2] = {{{}, f}, {{{}, {5, 6}}, &g, 0}};": {{16, 0}, {48, 1}},
	} {
		p := passes(t, text+beside)
		if g := p.Globals[0]; !slices.Equal(g.Funcs, want) || !g.Init {
			t.Errorf("%s: %v, want %v", text, g.Funcs, want)
		}
	}
	p := passes(t, "struct r a[2] = {{{{7}}, f}, {{{}, {5, 6}}, &g, 0}};"+beside)
	if d := p.Globals[0].Data; len(d) != 64 || d[0] != 7 || d[40] != 5 || d[44] != 6 || slices.Max(d[16:40]) != 0 || slices.Max(d[48:]) != 0 {
		t.Errorf("%v", d)
	}
}

func TestFaultsOfInitialValues(t *testing.T) {
	samples := []sample{
		{"int a = @{1};", api.ErrType}, {"int a = @{};", api.ErrType}, {"int *a = @{0};", api.ErrType}, {"int (*a)(int) = @{f};", api.ErrType}, {"int a[2] = {1, @{2}};", api.ErrType}, {"int a = @{y};", api.ErrType}, {"struct s a = {@{1}, 2};", api.ErrType},
		{"int a[2] = @5;", api.ErrType}, {"int a[2] = @t;", api.ErrType}, {"int a[2] = @0;", api.ErrType}, {"int a[2] = @y;", api.ErrName}, {"struct s a = @z;", api.ErrType}, {"struct s a = @1 + 1;", api.ErrType}, {"struct s a = @0;", api.ErrType}, {"int a[2][2] = {@1, 2};", api.ErrType}, {"struct s a[1] = {@1};", api.ErrType}, {"struct r a = {@0};", api.ErrType},
		{"int a[2] = {1, 2, @3};", api.ErrCount}, {"int a[2] = {1, 2, @y, 4};", api.ErrCount}, {"int a[2] = {1, 2, @{}, 4};", api.ErrCount}, {"int a[2] = {1, @v, 3};", api.ErrConst}, {"int a[2] = {1, 2, @3 + 4};", api.ErrCount}, {"struct s a = {1, 2, @3};", api.ErrCount}, {"struct s a = {1, 2, @{3}};", api.ErrCount}, {"int a[2][2] = {{1, 2, @3}, {1, 2, 3}};", api.ErrCount}, {"int a[1][1] = {{1}, @{2, 3}};", api.ErrCount}, {"int a[2] = {1, 2,};", api.OK},
		{"int a = @v;", api.ErrConst}, {"int a = @f(1);", api.ErrConst}, {"int a = @1 + v;", api.ErrConst}, {"int a = @1 / 0;", api.ErrConst}, {"int a = @1 % 0;", api.ErrConst}, {"int a = @(1 / 0);", api.ErrConst}, {"int a = @(v + 1);", api.ErrConst}, {"int a = v @+ z;", api.ErrType}, {"int a = @(v = 1);", api.ErrConst}, {"long a = @(-9223372036854775807 - 1) / -1;", api.ErrConst}, {"long a = @(-9223372036854775807 - 1) % -1;", api.ErrConst}, {"int a = @1 && 1;", api.ErrConst}, {"int a = @0 || 1;", api.ErrConst}, {"int a = @1 ? 2 : 3;", api.ErrConst}, {"int a = @k;", api.ErrConst}, {"int a = @!(1 && 1);", api.ErrConst}, {"int a = @f == 0;", api.ErrConst}, {"int a = @!f;", api.ErrConst}, {"int a = @t[0];", api.ErrConst}, {"int a = @z.a;", api.ErrConst}, {"int a = @t - t;", api.ErrConst}, {"int a = @-v;", api.ErrConst}, {"int a = @(char) v;", api.ErrConst}, {"int a = 1 + @y;", api.ErrName}, {"int a = @v++;", api.ErrConst}, {"int a = @a;", api.ErrConst},
		{"int a = @t;", api.ErrType}, {"int a = @f;", api.ErrType}, {"int a = @z;", api.ErrType}, {"int a = @pv;", api.ErrType}, {"int a = @h();", api.ErrType}, {"int a = @out(1);", api.ErrType}, {"int a = @&v;", api.ErrType}, {"secret int a = @k;", api.ErrConst},
		{"int *a = @t;", api.ErrType}, {"int *a = @&v;", api.ErrType}, {"int *a = @pv;", api.ErrType}, {"int *a = @1;", api.ErrType}, {"int *a = @(int) 0;", api.ErrType}, {"int *a = @0 + 0;", api.ErrType}, {"int *a = @-0;", api.ErrType}, {"int *a = @f;", api.ErrType}, {"void *a = @f;", api.ErrType}, {"int *a = @y;", api.ErrName}, {"int *a = @z;", api.ErrType}, {"int *a = @v;", api.ErrType}, {"int *a = @(0 ? pv : 0);", api.ErrType},
		{"int (*a)(int) = @h;", api.ErrType}, {"int (*a)() = @f;", api.ErrType}, {"secret int (*a)(int) = @f;", api.ErrType}, {"int (*a)(int) = @f(1);", api.ErrType}, {"int (*a)(int) = @a;", api.ErrType}, {"int (*a)(int) = @&a;", api.ErrType}, {"int (*a)(int) = @1 ? f : g;", api.ErrType}, {"int (*a)(int) = @*f;", api.ErrType}, {"int (*a)(int) = @y;", api.ErrName}, {"int (*a[2])(int) = {f, @h};", api.ErrType},
		{"struct s a = {@y, 2};", api.ErrName}, {"struct s a = {1, @v};", api.ErrConst}, {"struct s a = {1, @t};", api.ErrType}, {"int a = 1; int b = @a;", api.ErrConst}, {"int b = @y; int a = y;", api.ErrName},
	}
	for _, s := range samples {
		fails(t, s.text+beside, s.kind)
	}
}

// A global may name what stands behind it, and itself, but no local.
func TestNamesInInitialValues(t *testing.T) {
	wholes(t, []sample{
		{"int (*a)(int) = f; int f(int x) { return x; }" + end, api.OK},
		{"int a = @x; int f(int x) { return x; }" + end, api.ErrName},
		{"int a = sizeof(struct q); struct q { long x; };" + end, api.OK},
		{"int (*a)() = main;" + end, api.OK},
		{"int a = @out;" + end, api.ErrName},
	})
}
