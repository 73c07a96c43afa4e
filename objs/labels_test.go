package objs

import (
	"math"
	"slices"
	"strings"
	"testing"

	"merlon/api"
	"merlon/ctype"
)

// Types that the tests are about.
func char() api.Type  { return ctype.IntOf(1, true) }
func short() api.Type { return ctype.IntOf(2, true) }
func inte() api.Type  { return ctype.IntOf(4, true) }
func long() api.Type  { return ctype.IntOf(8, true) }

func record(n int) api.Type { return api.Type{Kind: api.Struct, Num: n} }

func fun(ret api.Type, params ...api.Type) api.Type {
	return api.Type{Kind: api.Func, Params: params, Ret: &ret}
}

// add adds a struct with fields of these types.
func add(t *testing.T, x *ctype.Table, types ...api.Type) api.Type {
	t.Helper()
	fields := []ctype.Field{}
	for i, f := range types {
		fields = append(fields, ctype.Field{Name: string(rune('a' + i)), Type: f})
	}
	name := "s"
	for _, found := x.Find(name); found; _, found = x.Find(name) {
		name += "s"
	}
	n, e := x.Add(name, fields)
	if e != api.OK {
		t.Fatalf("Add = %d", int(e))
	}
	return record(n)
}

// bits writes labels: S for secret, a dot for public.
func bits(labels []bool) string {
	b := strings.Builder{}
	for _, secret := range labels {
		if secret {
			b.WriteByte('S')
		} else {
			b.WriteByte('.')
		}
	}
	return b.String()
}

// labels reads what bits writes.
func labels(s string) []bool {
	l := []bool{}
	for _, c := range s {
		l = append(l, c == 'S')
	}
	return l
}

func TestLabels(t *testing.T) {
	var x ctype.Table
	key := ctype.Secret(inte())
	padded := add(t, &x, char(), key, short())
	hidden := add(t, &x, ctype.Secret(char()), long(), ctype.Secret(short()))
	inner := add(t, &x, ctype.ArrayOf(ctype.Secret(short()), 3), char())
	outer := add(t, &x, char(), ctype.ArrayOf(inner, 2), ctype.PtrTo(key), padded)
	for i, a := range []struct {
		t    api.Type
		want string
	}{
		{char(), "."}, {short(), ".."}, {inte(), "...."}, {long(), "........"}, {ctype.IntOf(4, false), "...."},
		{ctype.Secret(char()), "S"}, {ctype.Secret(short()), "SS"}, {key, "SSSS"}, {ctype.Secret(long()), "SSSSSSSS"}, {ctype.Secret(ctype.IntOf(2, false)), "SS"},
		{ctype.PtrTo(key), "........"}, {ctype.PtrTo(ctype.VoidType()), "........"}, {ctype.PtrTo(fun(key, key)), "........"}, {ctype.PtrTo(ctype.ArrayOf(key, 3)), "........"},
		{ctype.ArrayOf(short(), 3), "......"}, {ctype.ArrayOf(key, 1), "SSSS"}, {ctype.ArrayOf(key, 3), "SSSSSSSSSSSS"}, {ctype.ArrayOf(ctype.ArrayOf(ctype.Secret(char()), 3), 5), strings.Repeat("S", 15)}, {ctype.ArrayOf(ctype.PtrTo(key), 2), strings.Repeat(".", 16)},
		// Bytes between fields, and behind the last one, are public.
		{padded, "....SSSS...."}, {hidden, "S...............SS......"}, {inner, "SSSSSS.."},
		{outer, ".." + "SSSSSS.." + "SSSSSS.." + "......" + "........" + "....SSSS...." + "...."},
		{ctype.ArrayOf(padded, 3), "....SSSS........SSSS........SSSS...."}, {ctype.ArrayOf(ctype.ArrayOf(inner, 2), 2), "SSSSSS..SSSSSS..SSSSSS..SSSSSS.."},
		// What has no size has no bytes.
		{ctype.VoidType(), ""}, {fun(key, key), ""}, {record(9), ""}, {record(-1), ""}, {ctype.ArrayOf(key, 0), ""}, {ctype.ArrayOf(key, -3), ""}, {ctype.ArrayOf(ctype.VoidType(), 5), ""}, {ctype.ArrayOf(record(9), 5), ""}, {ctype.ArrayOf(ctype.ArrayOf(key, 0), 1<<40), ""},
	} {
		if got := bits(Labels(&x, a.t)); got != a.want {
			t.Errorf("%d: Labels of %s = %q, want %q", i, x.Show(a.t), got, a.want)
		}
	}
}

func TestLabelsWithoutTable(t *testing.T) {
	if got := bits(Labels(nil, ctype.ArrayOf(ctype.Secret(char()), 2))); got != "SS" {
		t.Errorf("Labels without a table = %q, want SS", got)
	}
	if got := Labels(nil, record(0)); len(got) != 0 {
		t.Errorf("Labels of a struct without a table = %v, want none", got)
	}
}

// TestLabelsOfOddTypes asks only that each call answers.
func TestLabelsOfOddTypes(t *testing.T) {
	var x ctype.Table
	odd := add(t, &x, char(), ctype.IntOf(-8, true), ctype.Secret(long()), ctype.IntOf(-16, true), ctype.ArrayOf(ctype.Secret(ctype.IntOf(3, true)), 5), ctype.Secret(char()))
	// Of this one fields begin, and end, behind the struct's end.
	cut := add(t, &x, long(), ctype.Secret(long()), ctype.Secret(long()), ctype.IntOf(-20, true), ctype.Secret(inte()), ctype.IntOf(-8, true), char())
	key := ctype.Secret(char())
	for _, a := range []api.Type{odd, ctype.ArrayOf(odd, 3), cut, ctype.ArrayOf(cut, 3), ctype.ArrayOf(ctype.IntOf(-4, true), -2), ctype.IntOf(-1, true), ctype.IntOf(math.MinInt, true), ctype.IntOf(math.MaxInt, true), {Kind: api.Array, Len: 3}, {Kind: api.Ptr}, {Kind: -1}, {Kind: 6, Size: 4, Secret: true}, ctype.ArrayOf(key, math.MaxInt), ctype.ArrayOf(ctype.ArrayOf(key, math.MaxInt), math.MaxInt), ctype.ArrayOf(key, math.MinInt), ctype.ArrayOf(ctype.VoidType(), math.MaxInt)} {
		Labels(&x, a)
	}
	if got := bits(Labels(&x, ctype.Secret(ctype.IntOf(3, true)))); got != "SSS" {
		t.Errorf("Labels of three secret bytes = %q", got)
	}
}

func TestLabelsAreNew(t *testing.T) {
	var x ctype.Table
	s := add(t, &x, ctype.Secret(char()), char())
	first := Labels(&x, s)
	clear(first)
	if got := bits(Labels(&x, s)); got != "S." {
		t.Errorf("Labels = %q, after the first ones had been changed", got)
	}
}

// expected are a type's labels by the chapter's words.
func expected(x *ctype.Table, a api.Type) []bool {
	switch a.Kind {
	case api.Int:
		return slices.Repeat([]bool{a.Secret}, a.Size)
	case api.Array:
		l := []bool{}
		for range a.Len {
			l = append(l, expected(x, *a.Elem)...)
		}
		return l
	case api.Struct:
		l := []bool{}
		for _, f := range x.Fields(a.Num) {
			for len(l) < f.At {
				l = append(l, false)
			}
			l = append(l, expected(x, f.Type)...)
		}
		for len(l) < x.Size(a) {
			l = append(l, false)
		}
		return l
	}
	return make([]bool, x.Size(a))
}

// mixed is a type of at most depth levels, with the structs below a number.
func (m *mixer) mixed(depth, structs int) api.Type {
	switch kind := m.below(8); {
	case kind == 0 && structs > 0:
		return record(m.below(structs))
	case kind == 1:
		return ctype.PtrTo(ctype.Secret(char()))
	case kind < 4 && depth > 0:
		return ctype.ArrayOf(m.mixed(depth-1, structs), 1+m.below(5))
	}
	a := ctype.IntOf(1<<m.below(4), m.below(2) == 0)
	if m.below(2) == 0 {
		return ctype.Secret(a)
	}
	return a
}

func TestMixedLabels(t *testing.T) {
	m := mixer(1)
	for range 100 {
		var x ctype.Table
		for n := range 6 {
			types := []api.Type{}
			for range 1 + m.below(5) {
				types = append(types, m.mixed(2, n))
			}
			add(t, &x, types...)
		}
		for range 20 {
			a := m.mixed(3, 6)
			if got, want := Labels(&x, a), expected(&x, a); !slices.Equal(got, want) {
				t.Fatalf("Labels of %s = %s, want %s", x.Show(a), bits(got), bits(want))
			}
		}
	}
}
