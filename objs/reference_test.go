package objs

import (
	"fmt"
	"slices"
	"testing"

	"merlon/api"
	"merlon/ctype"
)

// A mixer makes the tests' numbers: always the same ones.
type mixer uint64

func (m *mixer) below(n int) int {
	*m = *m*6364136223846793005 + 1442695040888963407
	return int(uint64(*m) >> 33 % uint64(n))
}

// A plain memory is what the chapter's words say of one: of each byte a label, and its content as a text.
type plain struct {
	labels   [][]bool
	contents [][]string // of an object that was dropped nil
}

func (m *plain) make(labels []bool) int {
	m.labels = append(m.labels, slices.Clone(labels))
	m.contents = append(m.contents, make([]string, len(labels)))
	return len(m.labels) - 1
}

func (m *plain) drop(i int) {
	if i >= 0 && i < len(m.contents) {
		m.contents[i] = nil
	}
}

func (m *plain) forget(i int) {
	if i >= 0 && i < len(m.contents) && m.contents[i] != nil {
		m.contents[i] = make([]string, len(m.labels[i]))
	}
}

// exist: whether n bytes at a location exist. All numbers of the tests are small.
func (m *plain) exist(p Ptr, n int) bool {
	return p.Kind == 1 && p.Obj >= 0 && p.Obj < len(m.contents) && m.contents[p.Obj] != nil && p.Off >= 0 && int(p.Off)+n <= len(m.labels[p.Obj])
}

func (m *plain) may(p Ptr, t api.Type) bool {
	if t.Kind == api.Ptr {
		return p.Off%8 == 0 && m.exist(p, 8)
	}
	if t.Kind != api.Int || !m.exist(p, t.Size) {
		return false
	}
	for i := range t.Size {
		if m.labels[p.Obj][int(p.Off)+i] != t.Secret {
			return false
		}
	}
	return true
}

func byteOf(p Ptr, i int) string { return fmt.Sprintf("byte %d of %v", i, p) }

func (m *plain) load(p Ptr, t api.Type) (Value, bool) {
	if !m.may(p, t) {
		return Value{}, false
	}
	at := m.contents[p.Obj][p.Off:]
	if t.Kind == api.Ptr {
		for _, v := range pointers() {
			if slices.EqualFunc(at[:8], []int{0, 1, 2, 3, 4, 5, 6, 7}, func(s string, i int) bool { return s == byteOf(v, i) }) {
				return Value{P: v, IsPtr: true}, true
			}
		}
		return Value{}, false
	}
	sum, place := int64(0), int64(1)
	for i := range t.Size {
		b := int64(0)
		if k, _ := fmt.Sscanf(at[i], "number %d", &b); k != 1 {
			return Value{}, false
		}
		sum += b * place
		place *= 256
		if t.Signed && i == t.Size-1 && b >= 128 {
			sum -= place
		}
	}
	return Value{Num: sum}, true
}

func (m *plain) store(p Ptr, t api.Type, v Value) bool {
	if !m.may(p, t) {
		return false
	}
	if t.Kind == api.Ptr {
		for i := range 8 {
			if m.labels[p.Obj][int(p.Off)+i] {
				return false
			}
		}
		for i := range 8 {
			m.contents[p.Obj][int(p.Off)+i] = byteOf(v.P, i)
		}
		return true
	}
	for i, rest := 0, uint64(v.Num); i < t.Size; i, rest = i+1, rest/256 {
		m.contents[p.Obj][int(p.Off)+i] = fmt.Sprintf("number %d", rest%256)
	}
	return true
}

func (m *plain) copy(to, from Ptr, n int) bool {
	if n < 0 || !m.exist(to, n) || !m.exist(from, n) || (to.Off-from.Off)%8 != 0 {
		return false
	}
	before := slices.Clone(m.contents[from.Obj])
	for i := range n {
		if m.labels[to.Obj][int(to.Off)+i] != m.labels[from.Obj][int(from.Off)+i] {
			return false
		}
	}
	for i := range n {
		m.contents[to.Obj][int(to.Off)+i] = before[int(from.Off)+i]
	}
	return true
}

func (m *plain) add(p Ptr, n int64) (Ptr, bool) {
	to := Ptr{p.Kind, p.Obj, p.Off + n}
	if !m.exist(p, 0) || !m.exist(to, 0) {
		return Ptr{}, false
	}
	return to, true
}

// pointers are those that the mixed runs store.
func pointers() []Ptr {
	return []Ptr{{}, {1, 0, 0}, {1, 0, 8}, {1, 1, 0}, {1, 3, 5}, {1, 99, -7}, {2, 0, 0}, {2, 1, 0}, {2, 8, 0}}
}

func (m *mixer) place() Ptr {
	kind := 1
	if m.below(30) == 0 {
		kind = m.below(5) - 1
	}
	off := int64(m.below(44) - 2)
	if m.below(2) == 0 {
		off = off / 8 * 8
	}
	return Ptr{kind, m.below(12) - 1, off}
}

func (m *mixer) accessed() api.Type {
	if m.below(3) == 0 {
		return ctype.PtrTo(char())
	}
	t := ctype.IntOf(1<<m.below(4), m.below(2) == 0)
	t.Secret = m.below(4) == 0
	return t
}

func (m *mixer) value() Value {
	of := pointers()
	return Value{Num: int64(m.below(1<<31))<<40 ^ int64(m.below(1<<31))<<15 ^ int64(m.below(300)), P: of[m.below(len(of))], IsPtr: m.below(2) == 0}
}

// newLabels are mostly public: pointers need eight such bytes.
func (m *mixer) newLabels() []bool {
	l := []bool{}
	for len(l) < 40 && m.below(30) > 0 {
		secret := m.below(6) == 0
		for range 1 + m.below(12) {
			l = append(l, secret)
		}
	}
	return l
}

// step does the same with both memories: what both answer, and whether the answer is a positive one.
func (m *mixer) step(real *Memory, model *plain) (string, any, any, bool) {
	p, q, t, v, n := m.place(), m.place(), m.accessed(), m.value(), m.below(20)-1
	switch m.below(20) {
	case 0:
		l := m.newLabels()
		return "Make", real.Make(l), model.make(l), true
	case 1:
		i := m.below(14) - 2
		if m.below(3) == 0 {
			real.Drop(i)
			model.drop(i)
			return "Drop", 0, 0, true
		}
		real.Forget(i)
		model.forget(i)
		return "Forget", 0, 0, true
	case 2, 3, 4:
		if m.below(2) == 0 {
			q.Off = p.Off%8 + 8*int64(m.below(5))
		}
		got := real.Copy(p, q, n)
		return fmt.Sprint("Copy ", p, q, n), got, model.copy(p, q, n), got
	case 5, 6:
		k := int64(m.below(60) - 30)
		a, ok := real.Add(p, k)
		b, want := model.add(p, k)
		return fmt.Sprint("Add ", p, k), fmt.Sprint(a, ok), fmt.Sprint(b, want), ok
	case 7:
		got := real.Alive(p)
		return fmt.Sprint("Alive ", p), got, p.Kind != 1 || model.exist(p, 0), got
	case 8, 9, 10, 11, 12, 13:
		got := real.Store(p, t, v)
		return fmt.Sprint("Store ", p, t, v), got, model.store(p, t, v), got
	}
	a, ok := real.Load(p, t)
	b, want := model.load(p, t)
	return fmt.Sprint("Load ", p, t), fmt.Sprint(a, ok), fmt.Sprint(b, want), ok
}

// TestReference holds mixed calls against the plain memory, and all that is stored in the end.
func TestReference(t *testing.T) {
	m := mixer(1)
	answers := map[string][2]int{}
	for range 200 {
		real, model := New(), &plain{}
		for range 300 {
			call, got, want, ok := m.step(real, model)
			if got != want {
				t.Fatalf("%s = %v, want %v", call, got, want)
			}
			var name string
			fmt.Sscan(call, &name)
			seen := answers[name]
			seen[btoi(ok)]++
			answers[name] = seen
		}
		compare(t, real, model)
	}
	for _, name := range []string{"Copy", "Add", "Alive", "Store", "Load"} {
		if seen := answers[name]; seen[0] < 100 || seen[1] < 100 {
			t.Errorf("%s was refused %d times and done %d times: too few to tell", name, seen[0], seen[1])
		}
	}
}

func btoi(x bool) int {
	if x {
		return 1
	}
	return 0
}

// compare holds the bytes and pointers of two memories against each other.
func compare(t *testing.T, real *Memory, model *plain) {
	t.Helper()
	for i := range model.labels {
		for off := range len(model.labels[i]) + 1 {
			p := Ptr{1, i, int64(off)}
			for _, x := range []api.Type{char(), ctype.Secret(char()), ctype.PtrTo(char())} {
				got, ok := real.Load(p, x)
				if want, there := model.load(p, x); got != want || ok != there {
					t.Fatalf("Load(%v, %+v) = %v, %v, want %v, %v", p, x, got, ok, want, there)
				}
			}
			if got := real.Alive(p); got != model.exist(p, 0) {
				t.Fatalf("Alive(%v) = %v", p, got)
			}
		}
	}
}
