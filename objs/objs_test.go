package objs

import (
	"fmt"
	"math"
	"slices"
	"strings"
	"testing"

	"merlon/api"
	"merlon/ctype"
)

func at(obj int, off int64) Ptr { return Ptr{Kind: 1, Obj: obj, Off: off} }

func num(n int64) Value { return Value{Num: n} }

func ptr(p Ptr) Value { return Value{P: p, IsPtr: true} }

func secret(size int) api.Type { return ctype.Secret(ctype.IntOf(size, true)) }

func anyPtr() api.Type { return ctype.PtrTo(char()) }

// with is a memory with an object for each text of labels.
func with(texts ...string) *Memory {
	m := New()
	for _, s := range texts {
		m.Make(labels(s))
	}
	return m
}

func dots(n int) string { return strings.Repeat(".", n) }

// stores checks that something is stored.
func stores(t *testing.T, m *Memory, p Ptr, x api.Type, v Value) {
	t.Helper()
	if !m.Store(p, x, v) {
		t.Errorf("Store(%v, %+v, %v) = false", p, x, v)
	}
}

// loads checks what is loaded.
func loads(t *testing.T, m *Memory, p Ptr, x api.Type, want Value) {
	t.Helper()
	if got, ok := m.Load(p, x); got != want || !ok {
		t.Errorf("Load(%v, %+v) = %v, %v, want %v", p, x, got, ok, want)
	}
}

// empty checks that nothing can be loaded.
func empty(t *testing.T, m *Memory, p Ptr, x api.Type) {
	t.Helper()
	if got, ok := m.Load(p, x); got != (Value{}) || ok {
		t.Errorf("Load(%v, %+v) = %v, %v, want nothing", p, x, got, ok)
	}
}

// keeps checks that a call is refused, and that the first objects stay as they were.
func keeps(t *testing.T, m *Memory, what string, call func() bool) {
	t.Helper()
	before := all(m)
	if call() {
		t.Errorf("%s = true", what)
	}
	if after := all(m); !slices.Equal(before, after) {
		t.Errorf("%s with false left %v, before it stood %v", what, after, before)
	}
}

// refuses checks that neither Load nor Store does anything.
func refuses(t *testing.T, m *Memory, p Ptr, x api.Type) {
	t.Helper()
	empty(t, m, p, x)
	keeps(t, m, fmt.Sprintf("Store(%v, %+v)", p, x), func() bool { return m.Store(p, x, Value{Num: 77, P: at(0, 1)}) })
}

// all is what can be loaded from the first bytes of the first objects.
func all(m *Memory) []string {
	l := []string{}
	for i := range 6 {
		for off := range int64(50) {
			for _, x := range []api.Type{char(), secret(1), anyPtr()} {
				v, ok := m.Load(at(i, off), x)
				l = append(l, fmt.Sprint(v, ok))
			}
			l = append(l, fmt.Sprint(m.Alive(at(i, off))))
		}
	}
	return l
}

func TestMake(t *testing.T) {
	m := New()
	for want := range 5 {
		if got := m.Make(make([]bool, want)); got != want {
			t.Errorf("Make = %d, want %d", got, want)
		}
	}
	// The number of an object that was dropped isn't given again.
	m.Drop(4)
	m.Drop(1)
	if got := m.Make(nil); got != 5 {
		t.Errorf("Make = %d behind five others, want 5", got)
	}
	for i, want := range []bool{true, false, true, true, false, true, false} {
		if m.Alive(at(i, 0)) != want {
			t.Errorf("Alive of object %d = %v", i, !want)
		}
	}
	if other := New(); other.Alive(at(0, 0)) || other.Make(nil) != 0 {
		t.Errorf("a second memory has the first one's objects")
	}
}

func TestMakeKeepsItsOwnLabels(t *testing.T) {
	m, l := New(), labels(".S")
	m.Make(l)
	l[0], l[1] = true, false
	stores(t, m, at(0, 0), char(), num(1))
	stores(t, m, at(0, 1), secret(1), num(2))
	if l := labels("S.S.S.")[:3]; m.Make(l) != 1 || bits(l[:6]) != "S.S.S." {
		t.Errorf("Make changed its labels to %s", bits(l[:6]))
	}
	refuses(t, m, at(1, 3), secret(1))
}

func TestNumbers(t *testing.T) {
	for i, a := range []struct {
		size    int
		signed  bool
		n, want int64
	}{
		{1, true, 0, 0}, {1, true, 127, 127}, {1, true, 128, -128}, {1, true, -1, -1}, {1, true, 0x1FE, -2}, {1, false, 255, 255}, {1, false, -1, 255}, {1, false, 256, 0},
		{2, true, 0x7FFF, 0x7FFF}, {2, true, 0x8000, -0x8000}, {2, true, 0x12345, 0x2345}, {2, true, -2, -2}, {2, false, -2, 0xFFFE}, {2, false, 0x18001, 0x8001}, {2, true, 0x80, 0x80},
		{4, true, math.MaxInt32, math.MaxInt32}, {4, true, 1 << 31, math.MinInt32}, {4, true, -7, -7}, {4, true, 0x8000, 0x8000}, {4, false, -7, 1<<32 - 7}, {4, false, 1<<40 + 5, 5}, {4, false, math.MinInt64, 0},
		{8, true, math.MaxInt64, math.MaxInt64}, {8, true, math.MinInt64, math.MinInt64}, {8, true, -1, -1}, {8, true, 1 << 31, 1 << 31}, {8, false, -1, -1}, {8, false, math.MinInt64, math.MinInt64}, {8, false, 0x0123456789ABCDEF, 0x0123456789ABCDEF},
	} {
		for _, hide := range []bool{false, true} {
			x := ctype.IntOf(a.size, a.signed)
			x.Secret = hide
			// No place needs to be a multiple of anything.
			for off := range int64(3) {
				m := with(strings.Repeat(bits([]bool{hide}), 11))
				empty(t, m, at(0, off), x)
				stores(t, m, at(0, off), x, num(a.n))
				loads(t, m, at(0, off), x, num(a.want))
				if t.Failed() {
					t.Fatalf("%d: offset %d", i, off)
				}
			}
		}
	}
}

func TestBytesOfNumbers(t *testing.T) {
	m := with(dots(16))
	stores(t, m, at(0, 4), long(), num(-0x123456789ABCDF0))
	for i, b := range []int64{0x10, 0x32, 0x54, 0x76, 0x98, 0xBA, 0xDC, 0xFE} {
		loads(t, m, at(0, 4+int64(i)), ctype.IntOf(1, false), num(b))
	}
	empty(t, m, at(0, 3), char())
	empty(t, m, at(0, 12), char())
	// Bytes of several numbers are a number, too.
	stores(t, m, at(0, 5), short(), num(0x0201))
	loads(t, m, at(0, 4), inte(), num(0x76020110))
	loads(t, m, at(0, 6), short(), num(0x7602))
	loads(t, m, at(0, 4), long(), num(-0x1234567_89FDFEF0))
}

func TestNothingStored(t *testing.T) {
	for _, size := range []int{1, 2, 4, 8} {
		for hole := range size {
			m := with(dots(8))
			for i := range size {
				if i != hole {
					stores(t, m, at(0, int64(i)), char(), num(1))
				}
			}
			empty(t, m, at(0, 0), ctype.IntOf(size, true))
			stores(t, m, at(0, int64(hole)), char(), num(1))
			loads(t, m, at(0, 0), ctype.IntOf(size, false), num(0x0101010101010101>>(64-8*size)))
		}
	}
}

// missing are pointers at which not even 0 bytes exist, in a memory with an object 0 of 16 bytes and without the objects 1 and 2.
func missing() []Ptr {
	return []Ptr{
		{}, {0, 0, 8}, {2, 0, 0}, {2, 0, 8}, {3, 0, 0}, {-1, 0, 0}, {math.MaxInt, 0, 0}, {math.MinInt, 0, 8},
		{1, 1, 0}, {1, 2, 0}, {1, -1, 0}, {1, math.MaxInt, 0}, {1, math.MinInt, 0}, {1, 1 << 32, 0},
		{1, 0, -1}, {1, 0, -8}, {1, 0, -16}, {1, 0, 17}, {1, 0, 24}, {1, 0, 32}, {1, 0, math.MaxInt64}, {1, 0, math.MaxInt64 - 7}, {1, 0, math.MinInt64}, {1, 0, 1 << 32}, {1, 0, -1 << 32},
	}
}

// filled is such a memory, with a number in each byte; object 1 was dropped.
func filled(t *testing.T) *Memory {
	t.Helper()
	m := with(dots(16), dots(16))
	for i := range int64(16) {
		stores(t, m, at(0, i), char(), num(i))
	}
	m.Drop(1)
	return m
}

func TestLocationsThatDontExist(t *testing.T) {
	m := filled(t)
	for _, size := range []int{1, 2, 4, 8} {
		x := ctype.IntOf(size, true)
		for _, p := range missing() {
			refuses(t, m, p, x)
		}
		for off := int64(17 - size); off <= 16; off++ {
			refuses(t, m, at(0, off), x)
		}
		if _, ok := m.Load(at(0, int64(16-size)), x); !ok {
			t.Errorf("the last %d bytes can't be loaded", size)
		}
		stores(t, m, at(0, int64(16-size)), x, num(3))
	}
	for _, p := range missing() {
		refuses(t, m, p, anyPtr())
	}
	refuses(t, m, at(0, 16), anyPtr())
	stores(t, m, at(0, 8), anyPtr(), ptr(at(0, 16)))
}

func TestLabelsOfAccesses(t *testing.T) {
	for _, size := range []int{1, 2, 4, 8} {
		for odd := range size {
			public := []byte(dots(size))
			public[odd] = 'S'
			hidden := []byte(strings.Repeat("S", size))
			hidden[odd] = '.'
			m := with(string(public), string(hidden), dots(size), strings.Repeat("S", size))
			for obj := range 4 {
				for i := range int64(size) {
					m.Store(at(obj, i), char(), num(1))
					m.Store(at(obj, i), secret(1), num(1))
				}
			}
			if size > 1 {
				refuses(t, m, at(0, 0), secret(size))
				refuses(t, m, at(1, 0), ctype.IntOf(size, true))
			}
			refuses(t, m, at(0, 0), ctype.IntOf(size, true))
			refuses(t, m, at(1, 0), secret(size))
			refuses(t, m, at(2, 0), secret(size))
			refuses(t, m, at(3, 0), ctype.IntOf(size, true))
			stores(t, m, at(2, 0), ctype.IntOf(size, true), num(2))
			stores(t, m, at(3, 0), secret(size), num(2))
			loads(t, m, at(3, 0), secret(size), num(2))
		}
	}
}

func TestTypesOfAccesses(t *testing.T) {
	var table ctype.Table
	s := add(t, &table, inte())
	m := filled(t)
	stores(t, m, at(0, 8), anyPtr(), ptr(Ptr{}))
	for _, x := range []api.Type{ctype.VoidType(), ctype.ArrayOf(char(), 4), ctype.ArrayOf(anyPtr(), 1), s, fun(inte()), {Kind: 6, Size: 4}, {Kind: -1, Size: 4}, {Kind: api.Void, Size: 4}, {Kind: api.Struct, Size: 8}, {Kind: api.Func, Size: 8}} {
		refuses(t, m, at(0, 0), x)
		refuses(t, m, at(0, 8), x)
	}
	for _, size := range []int{0, 3, 5, 6, 7, 9, 12, 16, -1, -8, math.MaxInt, math.MinInt} {
		refuses(t, m, at(0, 0), ctype.IntOf(size, true))
		refuses(t, m, at(0, 0), ctype.IntOf(size, false))
	}
	// What a pointer points to doesn't matter.
	for _, x := range []api.Type{ctype.PtrTo(ctype.VoidType()), ctype.PtrTo(fun(inte(), char())), ctype.PtrTo(secret(4)), ctype.PtrTo(anyPtr()), ctype.PtrTo(ctype.ArrayOf(s, 3)), ctype.PtrTo(record(7))} {
		stores(t, m, at(0, 0), x, ptr(at(0, 3)))
		loads(t, m, at(0, 0), x, ptr(at(0, 3)))
	}
}

func TestPointers(t *testing.T) {
	m := with(dots(24), dots(8))
	for _, p := range []Ptr{{}, at(0, 0), at(0, 24), at(1, 3), at(7, -5), at(-1, math.MaxInt64), at(math.MaxInt, math.MinInt64), {Kind: 2}, {Kind: 2, Obj: 59}} {
		for _, off := range []int64{0, 8, 16} {
			stores(t, m, at(0, off), anyPtr(), ptr(p))
			loads(t, m, at(0, off), anyPtr(), ptr(p))
		}
		loads(t, m, at(0, 8), ctype.PtrTo(long()), ptr(p))
		// The type tells what is stored, not IsPtr.
		stores(t, m, at(0, 8), anyPtr(), Value{Num: 5, P: p})
		loads(t, m, at(0, 8), anyPtr(), ptr(p))
		// A pointer's bytes aren't those of a number.
		for _, size := range []int{1, 2, 4, 8} {
			for off := int64(0); off+int64(size) <= 24; off++ {
				empty(t, m, at(0, off), ctype.IntOf(size, true))
			}
		}
	}
	stores(t, m, at(1, 0), long(), Value{Num: 5, P: at(0, 0), IsPtr: true})
	loads(t, m, at(1, 0), long(), num(5))
	empty(t, m, at(1, 0), anyPtr())
}

func TestPlacesOfPointers(t *testing.T) {
	m := with(dots(32))
	for _, off := range []int64{0, 8, 16, 24} {
		stores(t, m, at(0, off), anyPtr(), ptr(at(0, 3)))
	}
	for off := range int64(32) {
		if off%8 != 0 {
			refuses(t, m, at(0, off), anyPtr())
		}
	}
	for odd := range 8 {
		l := []byte(dots(16))
		l[8+odd] = 'S'
		m := with(string(l))
		stores(t, m, at(0, 0), anyPtr(), ptr(at(0, 3)))
		refuses(t, m, at(0, 8), anyPtr())
	}
	refuses(t, with("SSSSSSSS"), at(0, 0), anyPtr())
	for n := range 8 {
		refuses(t, with(dots(n), dots(8+n)), at(0, 0), anyPtr())
		refuses(t, with(dots(n), dots(8+n)), at(1, 8), anyPtr())
	}
}

func TestPointersWithOtherBytes(t *testing.T) {
	for i := range int64(8) {
		m := with(dots(8), dots(8))
		stores(t, m, at(0, 0), anyPtr(), ptr(at(1, 2)))
		stores(t, m, at(0, i), char(), num(i))
		empty(t, m, at(0, 0), anyPtr())
		loads(t, m, at(0, i), char(), num(i))
		for k := range int64(8) {
			if k != i {
				empty(t, m, at(0, k), char())
			}
		}
		// With the byte that is missing it is a pointer again.
		stores(t, m, at(1, 0), anyPtr(), ptr(at(1, 2)))
		copies(t, m, at(0, i), at(1, i), 1)
		loads(t, m, at(0, 0), anyPtr(), ptr(at(1, 2)))
		// Not with one of another pointer.
		for _, p := range []Ptr{{}, at(1, 3), at(0, 2), {Kind: 2, Obj: 1}, {Kind: 2, Obj: 1, Off: 2}} {
			stores(t, m, at(1, 0), anyPtr(), ptr(p))
			copies(t, m, at(0, i), at(1, i), 1)
			empty(t, m, at(0, 0), anyPtr())
		}
	}
}

// copies checks that bytes are copied.
func copies(t *testing.T, m *Memory, to, from Ptr, n int) {
	t.Helper()
	if !m.Copy(to, from, n) {
		t.Errorf("Copy(%v, %v, %d) = false", to, from, n)
	}
}

// stays checks that bytes can't be copied.
func stays(t *testing.T, m *Memory, to, from Ptr, n int) {
	t.Helper()
	keeps(t, m, fmt.Sprintf("Copy(%v, %v, %d)", to, from, n), func() bool { return m.Copy(to, from, n) })
}

func TestPointersInParts(t *testing.T) {
	m := with(dots(16), dots(16), dots(16))
	stores(t, m, at(0, 0), anyPtr(), ptr(at(1, 4)))
	stores(t, m, at(1, 8), anyPtr(), ptr(at(1, 4)))
	copies(t, m, at(2, 0), at(0, 0), 3)
	empty(t, m, at(2, 0), anyPtr())
	copies(t, m, at(2, 3), at(1, 11), 5)
	loads(t, m, at(2, 0), anyPtr(), ptr(at(1, 4)))
	copies(t, m, at(2, 8), at(2, 0), 8)
	loads(t, m, at(2, 8), anyPtr(), ptr(at(1, 4)))
	// What a pointer leads to may be dropped: the pointer stays.
	m.Drop(1)
	loads(t, m, at(2, 8), anyPtr(), ptr(at(1, 4)))
}

func TestCopy(t *testing.T) {
	m := with("..SS....", "..SS......SS....", dots(16))
	stores(t, m, at(0, 0), short(), num(0x1234))
	stores(t, m, at(0, 2), secret(2), num(0x5678))
	stores(t, m, at(1, 12), inte(), num(9))
	copies(t, m, at(1, 0), at(0, 0), 8)
	loads(t, m, at(1, 0), short(), num(0x1234))
	loads(t, m, at(1, 2), secret(2), num(0x5678))
	empty(t, m, at(1, 4), char())
	// A byte that contains nothing is copied as well.
	copies(t, m, at(1, 8), at(0, 0), 8)
	loads(t, m, at(1, 10), secret(2), num(0x5678))
	empty(t, m, at(1, 12), char())
	// Only the bytes that were asked for.
	copies(t, m, at(2, 1), at(0, 1), 1)
	empty(t, m, at(2, 0), char())
	loads(t, m, at(2, 1), char(), num(0x12))
	empty(t, m, at(2, 2), char())
	// The source stays as it was, also if the copy is changed.
	stores(t, m, at(1, 0), short(), num(1))
	loads(t, m, at(0, 0), short(), num(0x1234))
	stays(t, m, at(2, 0), at(0, 0), 3)
	stays(t, m, at(0, 0), at(2, 0), 4)
	stays(t, m, at(1, 8), at(2, 8), 8)
	stays(t, m, at(2, 8), at(1, 8), 8)
}

func TestLabelsOfCopies(t *testing.T) {
	for i := range 4 {
		l := []byte(dots(4))
		l[i] = 'S'
		m := with(dots(4), string(l), string(l))
		for obj := range 3 {
			for off := range int64(4) {
				m.Store(at(obj, off), char(), num(int64(obj)))
				m.Store(at(obj, off), secret(1), num(int64(obj)))
			}
		}
		stays(t, m, at(0, 0), at(1, 0), 4)
		stays(t, m, at(1, 0), at(0, 0), 4)
		copies(t, m, at(2, 0), at(1, 0), 4)
		loads(t, m, at(2, int64(i)), secret(1), num(1))
		copies(t, m, at(1, 0), at(0, 0), i)
	}
}

func TestOffsetsOfCopies(t *testing.T) {
	m := filled(t)
	m.Make(labels(dots(32)))
	for a := range int64(17) {
		for b := range int64(33) {
			if (a-b)%8 != 0 {
				stays(t, m, at(2, b), at(0, a), min(int(16-a), int(32-b), 2))
			} else {
				copies(t, m, at(2, b), at(0, a), min(int(16-a), int(32-b), 2))
			}
		}
	}
}

func TestCopiesWithin(t *testing.T) {
	for _, a := range []struct{ to, from int64 }{{8, 0}, {0, 8}, {0, 0}, {8, 8}, {3, 11}, {11, 3}, {0, 16}, {16, 0}} {
		for n := range 25 {
			if a.to+int64(n) > 32 || a.from+int64(n) > 32 {
				continue
			}
			m := with(dots(32))
			want := []int64{}
			for i := range int64(32) {
				stores(t, m, at(0, i), char(), num(i))
				want = append(want, i)
			}
			// The bytes as they were before, though some are overwritten.
			for i := range int64(n) {
				want[a.to+i] = a.from + i
			}
			copies(t, m, at(0, a.to), at(0, a.from), n)
			for i, b := range want {
				loads(t, m, at(0, int64(i)), char(), num(b))
			}
		}
	}
}

func TestCopiesThatDontExist(t *testing.T) {
	m := filled(t)
	for _, p := range missing() {
		for _, n := range []int{0, 1, 8} {
			stays(t, m, p, at(0, 0), n)
			stays(t, m, at(0, 0), p, n)
			stays(t, m, p, p, n)
		}
	}
	for _, n := range []int{-1, -8, 17, 1 << 40, math.MaxInt, math.MinInt} {
		stays(t, m, at(0, 0), at(0, 0), n)
		stays(t, m, at(0, 8), at(0, 0), n)
	}
	stays(t, m, at(0, 8), at(0, 0), 9)
	stays(t, m, at(0, 0), at(0, 8), 9)
	stays(t, m, at(0, 8), at(0, 8), -8)
	stays(t, m, at(0, 8), at(0, 8), math.MaxInt)
	before := all(m)
	for _, a := range []int64{0, 8, 16} {
		copies(t, m, at(0, a), at(0, 16-a), 0)
	}
	stays(t, m, at(0, 16), at(0, 15), 0)
	if !slices.Equal(all(m), before) {
		t.Errorf("a copy of no bytes changed some")
	}
}

func TestAdd(t *testing.T) {
	m := filled(t)
	for off := range int64(17) {
		for n := int64(-20); n <= 20; n++ {
			want, ok := Ptr{}, off+n >= 0 && off+n <= 16
			if ok {
				want = at(0, off+n)
			}
			if got, done := m.Add(at(0, off), n); got != want || done != ok {
				t.Errorf("Add(%v, %d) = %v, %v, want %v, %v", at(0, off), n, got, done, want, ok)
			}
		}
		for _, n := range []int64{math.MaxInt64, math.MaxInt64 - 7, math.MinInt64, math.MinInt64 + 8, 1 << 32, -1 << 32} {
			if got, done := m.Add(at(0, off), n); got != (Ptr{}) || done {
				t.Errorf("Add(%v, %d) = %v, %v", at(0, off), n, got, done)
			}
		}
	}
	for _, p := range missing() {
		for _, n := range []int64{0, 1, -1, 8, -8, -p.Off, 8 - p.Off, math.MaxInt64, math.MinInt64} {
			if got, done := m.Add(p, n); got != (Ptr{}) || done {
				t.Errorf("Add(%v, %d) = %v, %v", p, n, got, done)
			}
		}
	}
}

func TestAddWithoutBytes(t *testing.T) {
	m := with("")
	if got, ok := m.Add(at(0, 0), 0); got != at(0, 0) || !ok {
		t.Errorf("Add of 0 in an object without bytes = %v, %v", got, ok)
	}
	for _, n := range []int64{1, -1} {
		if got, ok := m.Add(at(0, 0), n); got != (Ptr{}) || ok {
			t.Errorf("Add of %d in an object without bytes = %v, %v", n, got, ok)
		}
	}
}

func TestAlive(t *testing.T) {
	m := filled(t)
	for off := range int64(17) {
		if !m.Alive(at(0, off)) {
			t.Errorf("Alive at %d of 16 = false", off)
		}
	}
	for _, p := range missing() {
		if got := m.Alive(p); got != (p.Kind != 1) {
			t.Errorf("Alive(%v) = %v", p, got)
		}
	}
}

func TestDrop(t *testing.T) {
	m := with(dots(8), dots(8), dots(8))
	for i := range 3 {
		stores(t, m, at(i, 0), long(), num(int64(i)))
	}
	m.Drop(1)
	refuses(t, m, at(1, 0), long())
	refuses(t, m, at(1, 0), anyPtr())
	stays(t, m, at(1, 0), at(0, 0), 8)
	stays(t, m, at(0, 0), at(1, 0), 8)
	stays(t, m, at(1, 0), at(1, 0), 0)
	if p, ok := m.Add(at(1, 0), 0); p != (Ptr{}) || ok {
		t.Errorf("Add in an object that was dropped = %v, %v", p, ok)
	}
	before := all(m)
	for _, i := range []int{1, 3, -1, math.MaxInt, math.MinInt} {
		m.Drop(i)
		m.Forget(i)
		if !slices.Equal(all(m), before) {
			t.Errorf("dropping or forgetting %d changed others", i)
		}
	}
	loads(t, m, at(0, 0), long(), num(0))
	loads(t, m, at(2, 0), long(), num(2))
	if got := m.Make(labels(dots(8))); got != 3 {
		t.Errorf("Make = %d, want 3", got)
	}
	empty(t, m, at(3, 0), long())
	empty(t, m, at(1, 0), long())
}

func TestForget(t *testing.T) {
	m := with("........SSSSSSSS....", dots(8))
	stores(t, m, at(0, 0), anyPtr(), ptr(at(1, 0)))
	stores(t, m, at(0, 8), secret(8), num(5))
	stores(t, m, at(0, 16), inte(), num(6))
	stores(t, m, at(1, 0), long(), num(7))
	m.Forget(0)
	for i := range int64(20) {
		empty(t, m, at(0, i), char())
		empty(t, m, at(0, i), secret(1))
	}
	empty(t, m, at(0, 0), anyPtr())
	loads(t, m, at(1, 0), long(), num(7))
	if !m.Alive(at(0, 20)) || m.Alive(at(0, 21)) {
		t.Errorf("an object has other bytes when its contents are forgotten")
	}
	// The labels stay.
	refuses(t, m, at(0, 8), long())
	refuses(t, m, at(0, 0), secret(8))
	stores(t, m, at(0, 8), secret(8), num(8))
	loads(t, m, at(0, 8), secret(8), num(8))
	stores(t, m, at(0, 0), anyPtr(), ptr(Ptr{}))
}

func TestNoMemory(t *testing.T) {
	var m *Memory
	m.Drop(0)
	m.Forget(0)
	if got := m.Make(labels("..")); got != 0 {
		t.Errorf("Make without a memory = %d", got)
	}
	for _, p := range append(missing(), at(0, 0)) {
		refuses(t, m, p, char())
		refuses(t, m, p, anyPtr())
		stays(t, m, p, p, 0)
		if got, ok := m.Add(p, 0); got != (Ptr{}) || ok {
			t.Errorf("Add without a memory = %v, %v", got, ok)
		}
		if got := m.Alive(p); got != (p.Kind != 1) {
			t.Errorf("Alive(%v) without a memory = %v", p, got)
		}
	}
}

func TestNew(t *testing.T) {
	a, b := New(), New()
	if a == nil || b == nil || a.Alive(at(0, 0)) {
		t.Fatalf("New has objects, or is nil")
	}
	a.Make(labels("."))
	b.Make(labels("."))
	stores(t, a, at(0, 0), char(), num(1))
	empty(t, b, at(0, 0), char())
}
