package ctype

import (
	"math/big"
	"strconv"
	"strings"
	"testing"

	"merlon/api"
)

// A mixer makes the tests' numbers: always the same ones.
type mixer uint64

func (m *mixer) below(n int) int {
	*m = *m*6364136223846793005 + 1442695040888963407
	return int(uint64(*m) >> 33 % uint64(n))
}

// mixed is a type of at most depth levels, with the structs below a number.
func (m *mixer) mixed(depth, structs int) api.Type {
	kind := m.below(6)
	if depth == 0 {
		kind = m.below(3)
	}
	switch kind {
	case 0:
		if structs > 0 {
			return record(m.below(structs))
		}
		return inte()
	case 1, 2:
		x := IntOf(1<<m.below(4), m.below(2) == 0)
		if m.below(3) == 0 {
			x = Secret(x)
		}
		return x
	case 3:
		return PtrTo(m.mixed(depth-1, structs))
	case 4:
		n := 1 + m.below(6)
		switch m.below(10) {
		case 0:
			n = 0
		case 1:
			n = m.below(api.MaxArray)
		}
		return ArrayOf(m.mixed(depth-1, structs), n)
	}
	if m.below(3) == 0 {
		return VoidType()
	}
	l := []api.Type{}
	for range m.below(3) {
		l = append(l, m.mixed(depth-1, structs))
	}
	return fun(m.mixed(depth-1, structs), l...)
}

// field is a type for a field: mostly one that has a size.
func (m *mixer) field(structs int) api.Type {
	for {
		x := m.mixed(3, structs)
		if x.Kind != api.Void && x.Kind != api.Func || m.below(20) == 0 {
			return x
		}
	}
}

// A plain struct is what the reference keeps of one.
type plain struct {
	name        string
	fields      []Field
	size, align *big.Int
}

// measure is a type's size and alignment by the chapter's words, in numbers without end.
func measure(l []plain, x api.Type) (*big.Int, *big.Int) {
	switch {
	case x.Kind == api.Int:
		return big.NewInt(int64(x.Size)), big.NewInt(int64(x.Size))
	case x.Kind == api.Ptr:
		return big.NewInt(8), big.NewInt(8)
	case x.Kind == api.Struct && x.Num < len(l):
		return l[x.Num].size, l[x.Num].align
	case x.Kind == api.Array:
		size, align := measure(l, *x.Elem)
		size = new(big.Int).Mul(size, big.NewInt(int64(x.Len)))
		if limit := big.NewInt(1 << 40); size.Cmp(limit) > 0 {
			size = limit
		}
		return size, align
	}
	return big.NewInt(0), big.NewInt(1)
}

// text is a type's text by the chapter's words.
func text(l []plain, x api.Type) string {
	switch x.Kind {
	case api.Void:
		return "void"
	case api.Int:
		words := []string{}
		if x.Secret {
			words = append(words, "secret")
		}
		if !x.Signed {
			words = append(words, "unsigned")
		}
		return strings.Join(append(words, map[int]string{1: "char", 2: "short", 4: "int", 8: "long"}[x.Size]), " ")
	case api.Ptr:
		return text(l, *x.Elem) + "*"
	case api.Array:
		return text(l, *x.Elem) + "[" + strconv.Itoa(x.Len) + "]"
	case api.Struct:
		if x.Num < len(l) {
			return "struct " + l[x.Num].name
		}
		return "struct "
	}
	params := []string{}
	for _, p := range x.Params {
		params = append(params, text(l, p))
	}
	return text(l, *x.Ret) + "(" + strings.Join(params, ",") + ")"
}

// lay adds a struct to the reference.
func lay(l []plain, name string, fields []Field) ([]plain, api.Errno) {
	for _, s := range l {
		if s.name == name {
			return l, api.ErrTwice
		}
	}
	if len(l) >= 20 || len(fields) > 20 {
		return l, api.ErrCount
	}
	one := big.NewInt(1)
	seen := map[string]int{}
	s := plain{name: name, size: big.NewInt(0), align: one}
	for _, f := range fields {
		size, align := measure(l, f.Type)
		seen[f.Name]++
		if seen[f.Name] > 1 {
			return l, api.ErrTwice
		}
		if size.Sign() == 0 {
			return l, api.ErrType
		}
		at := new(big.Int).Set(s.size)
		for new(big.Int).Mod(at, align).Sign() != 0 {
			at.Add(at, one)
		}
		s.size = new(big.Int).Add(at, size)
		if s.size.Cmp(big.NewInt(32768)) > 0 {
			return l, api.ErrFrame
		}
		if align.Cmp(s.align) > 0 {
			s.align = align
		}
		f.At = int(at.Int64())
		s.fields = append(s.fields, f)
	}
	if len(fields) == 0 {
		return l, api.ErrType
	}
	for new(big.Int).Mod(s.size, s.align).Sign() != 0 {
		s.size.Add(s.size, one)
	}
	return append(l, s), api.OK
}

// TestReference holds tables of mixed structs against the reference.
func TestReference(t *testing.T) {
	m := mixer(1)
	errors := map[api.Errno]int{}
	for range 300 {
		x, l := new(Table), []plain(nil)
		for range 40 {
			name := string(rune('a' + m.below(26)))
			in := []Field{}
			for range m.below(2 + m.below(22)) {
				in = append(in, Field{Name: "f" + strconv.Itoa(m.below(900)), Type: m.field(len(l)), At: m.below(9)})
			}
			n, e := x.Add(name, in)
			next, want := lay(l, name, in)
			errors[e]++
			if e != want || e == api.OK && n != len(l) || e != api.OK && n != 0 {
				t.Fatalf("Add = %d, %d, want %d, %d", n, int(e), len(l), int(want))
			}
			l = next
		}
		compare(t, &m, x, l)
	}
	for _, e := range []api.Errno{api.OK, api.ErrTwice, api.ErrCount, api.ErrType, api.ErrFrame} {
		if errors[e] == 0 {
			t.Errorf("no mixed struct ended with %d", int(e))
		}
	}
}

// compare holds a table's structs, and types that use them, against the reference.
func compare(t *testing.T, m *mixer, x *Table, l []plain) {
	t.Helper()
	for n, s := range l {
		got := x.Fields(n)
		if len(got) != len(s.fields) {
			t.Fatalf("struct %d has %d fields, want %d", n, len(got), len(s.fields))
		}
		for i, f := range s.fields {
			if got[i].Name != f.Name || got[i].At != f.At || !Same(got[i].Type, f.Type) {
				t.Fatalf("struct %d, field %d: %+v, want %+v", n, i, got[i], f)
			}
		}
		if k, found := x.Find(s.name); k != n || !found {
			t.Fatalf("Find(%q) = %d, %v, want %d", s.name, k, found, n)
		}
	}
	for range 50 {
		a := m.mixed(5, len(l))
		size, align := measure(l, a)
		if int64(x.Size(a)) != size.Int64() || int64(x.Align(a)) != align.Int64() {
			t.Fatalf("%s: size %d, alignment %d, want %v, %v", x.Show(a), x.Size(a), x.Align(a), size, align)
		}
		if x.Show(a) != text(l, a) {
			t.Fatalf("Show = %q, want %q", x.Show(a), text(l, a))
		}
		c := m.mixed(2, len(l))
		if d := m.mixed(2, len(l)); Same(c, d) != (text(l, c) == text(l, d)) || !Same(a, a) {
			t.Fatalf("Same of %s and %s", x.Show(c), x.Show(d))
		}
	}
}
