package ctype

import (
	"math"
	"reflect"
	"strconv"
	"strings"
	"testing"

	"merlon/api"
)

// Types that the tests are about.
func char() api.Type  { return IntOf(1, true) }
func short() api.Type { return IntOf(2, true) }
func inte() api.Type  { return IntOf(4, true) }
func long() api.Type  { return IntOf(8, true) }

func record(n int) api.Type { return api.Type{Kind: api.Struct, Num: n} }

func fun(ret api.Type, params ...api.Type) api.Type {
	return api.Type{Kind: api.Func, Params: params, Ret: &ret}
}

// fields names types a, b, c and so on.
func fields(types ...api.Type) []Field {
	l := []Field{}
	for i, t := range types {
		l = append(l, Field{Name: string(rune('a' + i)), Type: t})
	}
	return l
}

// add adds a struct that must be taken, with the next number.
func add(t *testing.T, x *Table, want int, name string, l []Field) {
	t.Helper()
	if n, e := x.Add(name, l); n != want || e != api.OK {
		t.Fatalf("Add(%q) = %d, %d, want %d, 0", name, n, int(e), want)
	}
}

// refuses checks that a struct isn't added, with which error, and that the table stays as it was.
func refuses(t *testing.T, x *Table, name string, l []Field, want api.Errno) {
	t.Helper()
	before := picture(x)
	if n, e := x.Add(name, l); n != 0 || e != want {
		t.Errorf("Add(%q) = %d, %d, want 0, %d", name, n, int(e), int(want))
	}
	if after := picture(x); !reflect.DeepEqual(before, after) {
		t.Errorf("Add(%q) with an error left %v, before it stood %v", name, after, before)
	}
}

// picture is all that a table tells of its structs.
func picture(x *Table) []any {
	l := []any{}
	for n := -1; n <= api.MaxStructs; n++ {
		l = append(l, x.Fields(n), x.Size(record(n)), x.Align(record(n)), x.Show(record(n)))
	}
	for _, name := range []string{"", "s", "t", "u", "s0", "s19", "s20"} {
		n, found := x.Find(name)
		l = append(l, n, found)
	}
	return l
}

func TestConstructors(t *testing.T) {
	for _, size := range []int{1, 2, 4, 8} {
		for _, signed := range []bool{false, true} {
			want := api.Type{Kind: api.Int, Size: size, Signed: signed}
			if got := IntOf(size, signed); !reflect.DeepEqual(got, want) {
				t.Errorf("IntOf(%d, %v) = %+v", size, signed, got)
			}
		}
	}
	if got := VoidType(); !reflect.DeepEqual(got, api.Type{Kind: api.Void}) {
		t.Errorf("VoidType() = %+v", got)
	}
	for _, x := range samples() {
		if got := PtrTo(x); !reflect.DeepEqual(got, api.Type{Kind: api.Ptr, Size: 8, Elem: &x}) {
			t.Errorf("PtrTo(%+v) = %+v", x, got)
		}
		for _, n := range []int{0, 1, 7, api.MaxArray} {
			if got := ArrayOf(x, n); !reflect.DeepEqual(got, api.Type{Kind: api.Array, Len: n, Elem: &x}) {
				t.Errorf("ArrayOf(%+v, %d) = %+v", x, n, got)
			}
		}
	}
}

func TestSecretAndOpen(t *testing.T) {
	u := IntOf(2, false)
	secret := api.Type{Kind: api.Int, Size: 2, Secret: true}
	if got := Secret(u); !reflect.DeepEqual(got, secret) {
		t.Errorf("Secret of an integer: %+v", got)
	}
	if got := Secret(secret); !reflect.DeepEqual(got, secret) {
		t.Errorf("Secret of a secret integer: %+v", got)
	}
	if got := Open(secret); !reflect.DeepEqual(got, u) {
		t.Errorf("Open of a secret integer: %+v", got)
	}
	if got := Open(u); !reflect.DeepEqual(got, u) {
		t.Errorf("Open of an integer: %+v", got)
	}
	in := ArrayOf(ArrayOf(u, 3), 2)
	if got := Secret(in); !reflect.DeepEqual(got, ArrayOf(ArrayOf(secret, 3), 2)) {
		t.Errorf("Secret of an array of arrays: %+v", got)
	}
	if !Same(in, ArrayOf(ArrayOf(u, 3), 2)) {
		t.Error("Secret changed its argument")
	}
	for _, x := range []api.Type{VoidType(), PtrTo(u), PtrTo(secret), PtrTo(in), record(2), fun(u, secret, PtrTo(u)), fun(VoidType())} {
		if got := Secret(x); !reflect.DeepEqual(got, x) {
			t.Errorf("Secret(%+v) = %+v", x, got)
		}
		if got := Secret(ArrayOf(x, 2)); !reflect.DeepEqual(got, ArrayOf(x, 2)) {
			t.Errorf("Secret of an array of %+v = %+v", x, got)
		}
		if got := Open(x); !reflect.DeepEqual(got, x) {
			t.Errorf("Open(%+v) = %+v", x, got)
		}
	}
	if x := ArrayOf(secret, 2); !reflect.DeepEqual(Open(x), x) {
		t.Errorf("Open of an array of secret integers: %+v", Open(x))
	}
}

func TestSame(t *testing.T) {
	// No two of these are the same type, and each is the same as itself put together anew.
	a, b := samples(), samples()
	for i, x := range a {
		for j, y := range b {
			if Same(x, y) != (i == j) {
				t.Errorf("Same(%+v, %+v) = %v", x, y, i != j)
			}
		}
	}
}

// samples are types all of which differ.
func samples() []api.Type {
	l := []api.Type{VoidType(), record(0), record(1)}
	for _, size := range []int{1, 2, 4, 8} {
		u, s := IntOf(size, false), IntOf(size, true)
		l = append(l, u, s, Secret(u), Secret(s))
	}
	for _, x := range l[:] {
		l = append(l, PtrTo(x), ArrayOf(x, 1), ArrayOf(x, 2), fun(x), fun(VoidType(), x), fun(VoidType(), x, inte()))
	}
	p := PtrTo(char())
	return append(l, PtrTo(p), ArrayOf(p, 3), PtrTo(ArrayOf(p, 3)), PtrTo(ArrayOf(p, 4)), ArrayOf(ArrayOf(p, 3), 4),
		PtrTo(fun(p, p)), PtrTo(fun(p, p, p)), PtrTo(fun(p)), PtrTo(fun(inte(), p)), PtrTo(fun(Secret(inte()), p)))
}

func TestUp(t *testing.T) {
	for n := 0; n <= 100; n++ {
		for align := 1; align <= 40; align++ {
			want := n
			for want%align != 0 {
				want++
			}
			if got := Up(n, align); got != want {
				t.Fatalf("Up(%d, %d) = %d, want %d", n, align, got, want)
			}
		}
	}
	for _, c := range [][3]int{
		{math.MaxInt, 1, math.MaxInt},
		{math.MaxInt - 1, 2, math.MaxInt - 1},
		{math.MaxInt - 8, 8, math.MaxInt - 7},
		{math.MaxInt - 7, 8, math.MaxInt - 7},
		{0, math.MaxInt, 0},
		{5, math.MaxInt, math.MaxInt},
		{math.MaxInt, math.MaxInt, math.MaxInt},
		{math.MaxInt - 1, math.MaxInt, math.MaxInt},
		{1<<62 - 5, 1 << 61, 1 << 62},
		{-1, 8, 0}, {-8, 8, -8}, {-9, 8, -8},
	} {
		if got := Up(c[0], c[1]); got != c[2] {
			t.Errorf("Up(%d, %d) = %d, want %d", c[0], c[1], got, c[2])
		}
	}
	for _, n := range []int{math.MinInt, -9, -1, 0, 1, 9, math.MaxInt} {
		for _, align := range []int{math.MinInt, -3, -1, 0, 1, 8, math.MaxInt} {
			Up(n, align) // may answer anything, but must answer
		}
	}
}

func TestPromote(t *testing.T) {
	for _, size := range []int{1, 2, 4, 8} {
		for _, signed := range []bool{false, true} {
			x := IntOf(size, signed)
			want := x
			if size < 4 {
				want = IntOf(4, true)
			}
			if got := Promote(x); !reflect.DeepEqual(got, want) {
				t.Errorf("Promote(%+v) = %+v", x, got)
			}
			if got := Promote(Secret(x)); !reflect.DeepEqual(got, Secret(want)) {
				t.Errorf("Promote of a secret %+v = %+v", x, got)
			}
		}
	}
	for _, x := range []api.Type{VoidType(), PtrTo(char()), ArrayOf(char(), 3), record(1), fun(char(), short())} {
		if got := Promote(x); !reflect.DeepEqual(got, x) {
			t.Errorf("Promote(%+v) = %+v", x, got)
		}
	}
}

func TestCommon(t *testing.T) {
	uint4, ulong, uchar, ushort := IntOf(4, false), IntOf(8, false), IntOf(1, false), IntOf(2, false)
	for _, c := range []struct{ a, b, want api.Type }{
		{char(), char(), inte()},
		{uchar, uchar, inte()},
		{uchar, short(), inte()},
		{ushort, ushort, inte()},
		{ushort, inte(), inte()},
		{inte(), inte(), inte()},
		{inte(), uint4, uint4},
		{uchar, uint4, uint4},
		{uint4, uint4, uint4},
		{uint4, long(), long()},
		{inte(), ulong, ulong},
		{uchar, ulong, ulong},
		{char(), long(), long()},
		{long(), long(), long()},
		{long(), ulong, ulong},
		{ulong, ulong, ulong},
	} {
		for _, way := range [][2]api.Type{{c.a, c.b}, {c.b, c.a}} {
			a, b := way[0], way[1]
			if got := Common(a, b); !reflect.DeepEqual(got, c.want) {
				t.Errorf("Common(%+v, %+v) = %+v, want %+v", a, b, got, c.want)
			}
			for _, got := range []api.Type{Common(Secret(a), b), Common(a, Secret(b)), Common(Secret(a), Secret(b))} {
				if !reflect.DeepEqual(got, Secret(c.want)) {
					t.Errorf("Common(%+v, %+v) with a secret: %+v, want %+v", a, b, got, Secret(c.want))
				}
			}
		}
	}
}

func TestLayout(t *testing.T) {
	x := new(Table)
	add(t, x, 0, "example", []Field{{Name: "a", Type: char()}, {Name: "b", Type: long()}, {Name: "c", Type: short(), At: 77}})
	want := []Field{{"a", char(), 0}, {"b", long(), 8}, {"c", short(), 16}}
	if got := x.Fields(0); !reflect.DeepEqual(got, want) {
		t.Errorf("Fields = %+v, want %+v", got, want)
	}
	for i, c := range []struct {
		types       []api.Type
		at          []int
		size, align int
	}{
		{[]api.Type{char()}, []int{0}, 1, 1},
		{[]api.Type{char(), char(), char()}, []int{0, 1, 2}, 3, 1},
		{[]api.Type{char(), short(), char()}, []int{0, 2, 4}, 6, 2},
		{[]api.Type{inte(), char()}, []int{0, 4}, 8, 4},
		{[]api.Type{char(), PtrTo(record(9)), char()}, []int{0, 8, 16}, 24, 8},
		{[]api.Type{ArrayOf(char(), 5), ArrayOf(short(), 3), ArrayOf(ArrayOf(inte(), 2), 2)}, []int{0, 6, 12}, 28, 4},
		{[]api.Type{char(), record(0), char()}, []int{0, 8, 32}, 40, 8},
		{[]api.Type{char(), record(2), inte()}, []int{0, 1, 4}, 8, 4},
		{[]api.Type{char(), ArrayOf(record(3), 2), short()}, []int{0, 2, 14}, 16, 2},
		{[]api.Type{Secret(char()), Secret(ArrayOf(long(), 1))}, []int{0, 8}, 16, 8},
	} {
		n := i + 1
		add(t, x, n, "s"+strconv.Itoa(n), fields(c.types...))
		for j, f := range x.Fields(n) {
			if f.At != c.at[j] || !Same(f.Type, c.types[j]) || f.Name != string(rune('a'+j)) {
				t.Errorf("struct %d, field %d is %+v, want it at %d", n, j, f, c.at[j])
			}
			if g, found := x.Field(n, f.Name); !found || !reflect.DeepEqual(f, g) {
				t.Errorf("struct %d: Field(%q) = %+v, %v, want %+v", n, f.Name, g, found, f)
			}
		}
		if len(x.Fields(n)) != len(c.at) || x.Size(record(n)) != c.size || x.Align(record(n)) != c.align {
			t.Errorf("struct %d: size %d, alignment %d, want %d, %d", n, x.Size(record(n)), x.Align(record(n)), c.size, c.align)
		}
	}
	if x.Size(record(0)) != 24 || x.Align(record(0)) != 8 {
		t.Errorf("the example has size %d and alignment %d", x.Size(record(0)), x.Align(record(0)))
	}
}

func TestSizeAndAlign(t *testing.T) {
	x := new(Table)
	add(t, x, 0, "s", fields(char(), inte(), char()))
	for _, c := range []struct {
		t           api.Type
		size, align int
	}{
		{char(), 1, 1}, {short(), 2, 2}, {inte(), 4, 4}, {long(), 8, 8}, {Secret(inte()), 4, 4},
		{VoidType(), 0, 1}, {fun(inte(), long()), 0, 1}, {PtrTo(VoidType()), 8, 8}, {PtrTo(fun(VoidType())), 8, 8},
		{record(0), 12, 4}, {record(1), 0, 1}, {record(-1), 0, 1}, {record(math.MaxInt), 0, 1}, {record(math.MinInt), 0, 1},
		{ArrayOf(inte(), 0), 0, 4}, {ArrayOf(inte(), 3), 12, 4}, {ArrayOf(record(0), 3), 36, 4}, {ArrayOf(VoidType(), 5), 0, 1},
		{ArrayOf(ArrayOf(short(), 3), 5), 30, 2}, {ArrayOf(PtrTo(char()), 3), 24, 8}, {ArrayOf(record(1), 3), 0, 1},
		{ArrayOf(char(), 1<<31-1), 1<<31 - 1, 1},
		{ArrayOf(char(), 1<<40-1), 1<<40 - 1, 1}, {ArrayOf(char(), 1<<40), 1 << 40, 1}, {ArrayOf(char(), 1<<40+1), 1 << 40, 1},
		{ArrayOf(long(), 1<<37-1), 1<<40 - 8, 8}, {ArrayOf(long(), 1<<37), 1 << 40, 8}, {ArrayOf(long(), 1<<37+1), 1 << 40, 8},
		{ArrayOf(record(0), 1<<40/12), 1 << 40 / 12 * 12, 4}, {ArrayOf(record(0), 1<<40/12+1), 1 << 40, 4},
		{ArrayOf(long(), 1<<61), 1 << 40, 8}, {ArrayOf(char(), math.MaxInt), 1 << 40, 1}, {ArrayOf(long(), math.MaxInt), 1 << 40, 8},
		{ArrayOf(ArrayOf(long(), math.MaxInt), math.MaxInt), 1 << 40, 8}, {ArrayOf(ArrayOf(long(), math.MaxInt), 0), 0, 8},
		{ArrayOf(IntOf(1<<41, true), 1), 1 << 40, 1 << 41}, {ArrayOf(ArrayOf(long(), 0), math.MaxInt), 0, 8}, {ArrayOf(VoidType(), math.MaxInt), 0, 1},
		{ArrayOf(ArrayOf(ArrayOf(char(), 1<<30), 1<<30), 1<<30), 1 << 40, 1},
		{api.Type{Kind: 6}, 0, 1}, {api.Type{Kind: -1}, 0, 1},
	} {
		if size, align := x.Size(c.t), x.Align(c.t); size != c.size || align != c.align {
			t.Errorf("%s: size %d, alignment %d, want %d, %d", x.Show(c.t), size, align, c.size, c.align)
		}
	}
}

func TestShow(t *testing.T) {
	x := new(Table)
	add(t, x, 0, "s", fields(char()))
	add(t, x, 1, "a b", fields(char()))
	add(t, x, 2, "", fields(char()))
	for _, c := range []struct {
		t    api.Type
		want string
	}{
		{char(), "char"}, {short(), "short"}, {inte(), "int"}, {long(), "long"},
		{IntOf(1, false), "unsigned char"}, {IntOf(2, false), "unsigned short"}, {IntOf(4, false), "unsigned int"}, {IntOf(8, false), "unsigned long"},
		{Secret(char()), "secret char"}, {Secret(IntOf(4, false)), "secret unsigned int"},
		{VoidType(), "void"}, {PtrTo(VoidType()), "void*"}, {PtrTo(PtrTo(char())), "char**"}, {PtrTo(Secret(long())), "secret long*"},
		{ArrayOf(inte(), 12), "int[12]"}, {ArrayOf(ArrayOf(inte(), 2), 3), "int[2][3]"}, {PtrTo(ArrayOf(inte(), 2)), "int[2]*"}, {ArrayOf(PtrTo(inte()), 2), "int*[2]"},
		{ArrayOf(inte(), 0), "int[0]"}, {ArrayOf(inte(), 1<<30), "int[1073741824]"},
		{record(0), "struct s"}, {record(1), "struct a b"}, {record(2), "struct "}, {record(3), "struct "}, {record(-1), "struct "}, {PtrTo(record(3)), "struct *"},
		{fun(VoidType()), "void()"}, {fun(inte(), char()), "int(char)"}, {fun(PtrTo(char()), Secret(inte()), PtrTo(record(0)), ArrayOf(char(), 2)), "char*(secret int,struct s*,char[2])"},
		{PtrTo(fun(inte(), PtrTo(fun(VoidType(), long(), long())), short())), "int(void(long,long)*,short)*"},
	} {
		if got := x.Show(c.t); got != c.want {
			t.Errorf("Show(%+v) = %q, want %q", c.t, got, c.want)
		}
	}
}

func TestFind(t *testing.T) {
	x := new(Table)
	add(t, x, 0, "s", fields(char(), long()))
	add(t, x, 1, "t", fields(short()))
	add(t, x, 2, "", []Field{{Name: "", Type: char()}})
	for _, c := range []struct {
		name  string
		n     int
		found bool
	}{{"s", 0, true}, {"t", 1, true}, {"", 2, true}, {"u", 0, false}, {"S", 0, false}, {"st", 0, false}} {
		if n, found := x.Find(c.name); n != c.n || found != c.found {
			t.Errorf("Find(%q) = %d, %v", c.name, n, found)
		}
	}
	if f, found := x.Field(2, ""); !found || f.Type.Size != 1 {
		t.Errorf("the field without a name is %+v, %v", f, found)
	}
	for _, c := range []struct {
		n    int
		name string
	}{{0, "c"}, {0, ""}, {1, "b"}, {-1, "a"}, {3, "a"}, {math.MaxInt, "a"}, {math.MinInt, "a"}} {
		if f, found := x.Field(c.n, c.name); found || !reflect.DeepEqual(f, Field{}) {
			t.Errorf("Field(%d, %q) = %+v, %v", c.n, c.name, f, found)
		}
	}
	for _, n := range []int{-1, 3, 20, math.MaxInt, math.MinInt} {
		if l := x.Fields(n); len(l) != 0 {
			t.Errorf("Fields(%d) = %+v", n, l)
		}
	}
}

func TestErrors(t *testing.T) {
	x := new(Table)
	add(t, x, 0, "s", fields(char()))
	big, none := ArrayOf(char(), api.MaxData+1), VoidType()
	many := make([]Field, api.MaxFields+1)
	for _, c := range []struct {
		name string
		l    []Field
		want api.Errno
	}{
		{"s", fields(char()), api.ErrTwice},
		{"s", many, api.ErrTwice},
		{"s", nil, api.ErrTwice},
		{"t", many, api.ErrCount},
		{"t", nil, api.ErrType},
		{"t", []Field{}, api.ErrType},
		{"t", fields(none), api.ErrType},
		{"t", fields(fun(inte())), api.ErrType},
		{"t", fields(ArrayOf(char(), 0)), api.ErrType},
		{"t", fields(record(1)), api.ErrType},
		{"t", fields(char(), ArrayOf(record(1), 4)), api.ErrType},
		{"t", fields(big), api.ErrFrame},
		{"t", fields(ArrayOf(char(), api.MaxData), char()), api.ErrFrame},
		{"t", fields(ArrayOf(char(), api.MaxData-7), long()), api.ErrFrame},
		{"t", fields(ArrayOf(long(), math.MaxInt)), api.ErrFrame},
		{"t", fields(IntOf(math.MaxInt, true)), api.ErrFrame},
		{"t", fields(char(), IntOf(math.MaxInt, true)), api.ErrFrame},
		{"t", fields(char(), IntOf(1<<62, true)), api.ErrFrame},
		{"t", fields(IntOf(0, true)), api.ErrType},
		// The first field with an error decides, and of one field's errors the one that is named first.
		{"t", []Field{{Name: "a", Type: char()}, {Name: "a", Type: none}}, api.ErrTwice},
		{"t", []Field{{Name: "a", Type: char()}, {Name: "a", Type: big}}, api.ErrTwice},
		{"t", []Field{{Name: "a", Type: none}, {Name: "a", Type: char()}}, api.ErrType},
		{"t", []Field{{Name: "a", Type: big}, {Name: "a", Type: char()}}, api.ErrFrame},
		{"t", []Field{{Name: "a", Type: char()}, {Name: "b", Type: char()}, {Name: "a", Type: char()}}, api.ErrTwice},
		{"t", []Field{{Name: "", Type: char()}, {Name: "", Type: char()}}, api.ErrTwice},
		{"t", fields(none, big), api.ErrType},
		{"t", fields(big, none), api.ErrFrame},
		{"t", fields(ArrayOf(char(), api.MaxData), none), api.ErrType},
	} {
		refuses(t, x, c.name, c.l, c.want)
	}
	add(t, x, 1, "t", fields(ArrayOf(char(), api.MaxData-8), long()))
	add(t, x, 2, "u", fields(long(), ArrayOf(char(), api.MaxData-8)))
	add(t, x, 3, "v", fields(ArrayOf(long(), api.MaxData/8-1), char()))
	for n := 1; n <= 3; n++ {
		if x.Size(record(n)) != api.MaxData {
			t.Errorf("struct %d has size %d", n, x.Size(record(n)))
		}
	}
}

func TestCounts(t *testing.T) {
	x := new(Table)
	l := []Field{}
	for i := range api.MaxFields {
		l = append(l, Field{Name: "f" + strconv.Itoa(i), Type: short()})
	}
	for i := range api.MaxStructs {
		add(t, x, i, "s"+strconv.Itoa(i), l)
	}
	if x.Size(record(api.MaxStructs-1)) != 2*api.MaxFields || len(x.Fields(0)) != api.MaxFields {
		t.Errorf("a struct of %d fields has size %d", len(x.Fields(0)), x.Size(record(api.MaxStructs-1)))
	}
	refuses(t, x, "s20", fields(char()), api.ErrCount)
	refuses(t, x, "s20", nil, api.ErrCount)
	refuses(t, x, "s20", []Field{{Name: "a"}}, api.ErrCount)
	refuses(t, x, "s19", fields(char()), api.ErrTwice)
}

func TestNilTable(t *testing.T) {
	var x *Table
	var empty Table
	for _, table := range []*Table{x, &empty} {
		n, found := table.Find("")
		f, there := table.Field(0, "")
		if n != 0 || found || there || !reflect.DeepEqual(f, Field{}) || len(table.Fields(0)) != 0 {
			t.Errorf("a struct in a table without any: %d, %v, %+v, %v", n, found, f, there)
		}
		if table.Size(record(0)) != 0 || table.Align(record(0)) != 1 || table.Show(PtrTo(record(0))) != "struct *" {
			t.Errorf("struct 0 in a table without any: %q", table.Show(PtrTo(record(0))))
		}
		if y := ArrayOf(short(), 3); table.Size(y) != 6 || table.Align(y) != 2 || table.Show(y) != "short[3]" {
			t.Errorf("an array with a table without structs: %q", table.Show(y))
		}
	}
}

// TestOwnMemory: neither arguments nor answers share what a caller may change later.
func TestOwnMemory(t *testing.T) {
	x := new(Table)
	in := fields(ArrayOf(char(), 3), PtrTo(fun(inte(), long(), PtrTo(short()))))
	in = append(in, Field{Name: "unused"})[:2]
	add(t, x, 0, "s", in)
	want := "char[3] int(long,short*)*"
	shown := func() string {
		l := x.Fields(0)
		return x.Show(l[0].Type) + " " + x.Show(l[1].Type)
	}
	if in[0].At != 0 || in[1].At != 0 || in[:3][2].Name != "unused" {
		t.Errorf("Add changed its argument: %+v", in[:3])
	}
	spoil := func(f Field) {
		if f.Type.Kind == api.Array {
			*f.Type.Elem = long()
			return
		}
		f.Type.Elem.Params[0] = VoidType()
		*f.Type.Elem.Params[1].Elem = VoidType()
		*f.Type.Elem.Ret = VoidType()
	}
	spoil(in[0])
	spoil(in[1])
	if shown() != want {
		t.Errorf("Add kept its argument: %s", shown())
	}
	l := x.Fields(0)
	spoil(l[0])
	spoil(l[1])
	l[0].Name = "x"
	if _, found := x.Field(0, "a"); shown() != want || !found {
		t.Errorf("Fields hands out the table's memory: %s", shown())
	}
	for _, name := range []string{"a", "b"} {
		f, _ := x.Field(0, name)
		spoil(f)
	}
	if shown() != want {
		t.Errorf("Field hands out the table's memory: %s", shown())
	}
}

// TestOwnTypes: a type that was answered has lists of its own.
func TestOwnTypes(t *testing.T) {
	inner := fun(inte(), char())
	for name, f := range map[string]func(api.Type) api.Type{
		"PtrTo":   func(t api.Type) api.Type { return *PtrTo(t).Elem },
		"ArrayOf": func(t api.Type) api.Type { return *ArrayOf(t, 1).Elem },
		"Secret":  Secret, "Open": Open, "Promote": Promote,
	} {
		in := fun(inte(), inner, short())
		out := f(in)
		out.Params[0].Params[0] = VoidType()
		out.Params[1] = VoidType()
		if !Same(in, fun(inte(), inner, short())) || !Same(inner, fun(inte(), char())) {
			t.Errorf("%s hands out the parameters that it was given", name)
		}
	}
	in := ArrayOf(char(), 2)
	*Secret(in).Elem = long()
	*Open(in).Elem = long()
	*Promote(in).Elem = long()
	if !Same(in, ArrayOf(char(), 2)) {
		t.Error("an answer shares an array's element with the argument")
	}
}

// TestStrangeTypes: types that no call returns break nothing.
func TestStrangeTypes(t *testing.T) {
	x := new(Table)
	l := []api.Type{{Kind: math.MaxInt}, {Kind: math.MinInt}, {Kind: api.Ptr}, {Kind: api.Array, Len: 3}, {Kind: api.Func}, {Kind: api.Func, Params: make([]api.Type, 2)},
		IntOf(0, true), IntOf(-1, true), IntOf(3, true), IntOf(math.MinInt, false), ArrayOf(long(), -1), ArrayOf(long(), math.MinInt)}
	for i, a := range l {
		x.Size(a)
		x.Align(a)
		x.Show(a)
		Secret(a)
		Open(a)
		Promote(a)
		x.Add("s"+strconv.Itoa(i), fields(char(), a, char()))
		for _, b := range l {
			Same(a, b)
			Common(a, b)
		}
	}
	if n, e := (*Table)(nil).Add("s", fields(char())); n != 0 || e == api.OK {
		t.Errorf("a nil table took a struct: %d, %d", n, int(e))
	}
}

// TestDeepTypes: types with many levels are built and asked in little time.
func TestDeepTypes(t *testing.T) {
	const deep = 1 << 15
	p, a := char(), char()
	for range deep {
		p, a = PtrTo(p), ArrayOf(a, 1)
	}
	x := new(Table)
	if x.Show(p) != "char"+strings.Repeat("*", deep) || x.Show(a) != "char"+strings.Repeat("[1]", deep) {
		t.Error("Show of a deep type")
	}
	if x.Size(p) != 8 || x.Size(a) != 1 || x.Align(a) != 1 || !Same(p, Open(p)) || Same(a, Secret(a)) || Same(p, PtrTo(p)) {
		t.Error("a deep type")
	}
	add(t, x, 0, "s", fields(a, p))
	if f, _ := x.Field(0, "b"); f.At != 8 || !Same(f.Type, p) {
		t.Error("a field of a deep type")
	}
}
