package rtl

import (
	"math"
	"reflect"
	"slices"
	"testing"

	"merlon/api"
)

// sample is a valid program: function 0, main, has 3 registers, 2 slots and 4 blocks, function 1 a parameter, function 2 six of them; there are 2 globals.
func sample() *Prog {
	return &Prog{
		Funcs: []Func{
			{Name: "main", Regs: 3, Slots: []int{8, 40}, Blocks: []Block{
				{Ins: []Ins{
					{Op: Slot, Dst: 0, Ref: 1, Off: 8},
					{Op: Store, Dst: -1, A: R(0), B: N(5), Size: 4},
					{Op: Load, Dst: 1, A: R(0), Size: 4, Signed: true},
					{Op: Call, Dst: 2, Ref: 1, Args: []Arg{R(1)}},
				}, Term: Term{Kind: Branch, Op: Lt, A: R(1), B: R(2), To: 1, Else: 2}},
				{Ins: []Ins{{Op: Out, Dst: -1, A: R(2)}}, Term: Term{Kind: Jump, To: 0}},
				{Term: Term{Kind: Ret, A: R(2)}},
				{Term: Term{Kind: Ret, A: N(0)}},
			}},
			{Name: "f", Params: 1, Secret: []bool{true}, Regs: 1, Blocks: []Block{{Term: Term{Kind: Ret, A: R(0)}}}},
			{Name: "g", Params: 6, Secret: make([]bool, 6), Regs: 7, Blocks: []Block{{Term: Term{Kind: Ret, A: N(0)}}}},
		},
		Globals: []GlobalVar{
			{Name: "x", At: 8, Size: 16, Parts: []Part{{Kind: Plain, Data: []byte{1, 2, 3, 4}}, {Kind: Public, N: 4}, {Kind: FuncAt, N: 2}}},
			{Name: "y", At: 24, Size: 8, Parts: []Part{{Kind: Hidden, N: 8}}},
		},
		Data: 32,
	}
}

// checked reports whether Right says of a program what it must.
func checked(t *testing.T, p *Prog, valid bool) bool {
	t.Helper()
	want := api.ErrBroken
	if valid {
		want = api.OK
	}
	e := Right(p)
	if e != want {
		t.Errorf("Right = %d, want %d", int(e), int(want))
	}
	return e == want
}

// A change makes of the sample another program, which is valid or not.
type change struct {
	name  string
	valid bool
	turn  func(p *Prog)
}

func turnAll(t *testing.T, changes []change) {
	t.Helper()
	for _, c := range changes {
		p := sample()
		c.turn(p)
		if !checked(t, p, c.valid) {
			t.Errorf("with %s", c.name)
		}
	}
}

func TestSampleIsValid(t *testing.T) {
	checked(t, sample(), true)
	checked(t, nil, false)
	checked(t, &Prog{}, false)
}

func TestMain(t *testing.T) {
	for _, n := range []int{-1, 0, 1, 2, 3, math.MinInt, math.MaxInt} {
		turnAll(t, []change{{"another main", n == 0, func(p *Prog) { p.Main = n }}})
	}
	turnAll(t, []change{
		{"main at the end", true, func(p *Prog) { p.Funcs = append(p.Funcs, p.Funcs[0]); p.Main = 3 }},
		{"a main that has a parameter", false, func(p *Prog) { f := &p.Funcs[0]; f.Params, f.Secret = 1, []bool{false} }},
		{"no function", false, func(p *Prog) { p.Funcs = nil }},
	})
}

func TestFunctions(t *testing.T) {
	turnAll(t, []change{
		{"no parameter and no register", true, func(p *Prog) {
			p.Funcs = append(p.Funcs, Func{Blocks: []Block{{Term: Term{Kind: Ret, A: N(0)}}}})
		}},
		{"as many parameters as registers", true, func(p *Prog) { p.Funcs[2].Regs = 6 }},
		{"more parameters than registers", false, func(p *Prog) { p.Funcs[2].Regs = 5 }},
		{"more than MaxParams", false, func(p *Prog) { f := &p.Funcs[2]; f.Params, f.Secret = 7, make([]bool, 7) }},
		{"fewer than no parameters", false, func(p *Prog) { f := &p.Funcs[2]; f.Params, f.Secret = -1, nil }},
		{"fewer parameters than secrets", false, func(p *Prog) { p.Funcs[2].Params = 5 }},
		{"the fewest parameters", false, func(p *Prog) { p.Funcs[2].Params = math.MinInt }},
		{"the most parameters", false, func(p *Prog) { f := &p.Funcs[2]; f.Params, f.Regs = math.MaxInt, math.MaxInt }},
		{"fewer than no registers", false, func(p *Prog) {
			p.Funcs = append(p.Funcs, Func{Regs: -1, Blocks: []Block{{Term: Term{Kind: Ret, A: N(0)}}}})
		}},
		{"too few secrets", false, func(p *Prog) { f := &p.Funcs[2]; f.Secret = f.Secret[:5] }},
		{"too many secrets", false, func(p *Prog) { f := &p.Funcs[2]; f.Secret = append(f.Secret, true) }},
		{"a secret without a parameter", false, func(p *Prog) { p.Funcs[0].Secret = []bool{false} }},
		{"no block", false, func(p *Prog) { p.Funcs[2].Blocks = nil }},
		{"empty blocks", false, func(p *Prog) { p.Funcs[2].Blocks = []Block{} }},
		{"no block in main", false, func(p *Prog) { p.Funcs[0].Blocks = nil }},
		{"a fault in the last function", false, func(p *Prog) { p.Funcs[2].Blocks[0].Term.A = R(7) }},
		{"a fault in a block that is never reached", false, func(p *Prog) { p.Funcs[0].Blocks[3].Term.A = R(3) }},
		{"a register of another function", false, func(p *Prog) { p.Funcs[1].Blocks[0].Term.A = R(1) }},
		{"a slot of another function", false, func(p *Prog) { p.Funcs[1].Blocks[0].Ins = []Ins{{Op: Slot, Dst: 0}} }},
		{"a block of another function", false, func(p *Prog) { p.Funcs[1].Blocks[0].Term = Term{Kind: Jump, To: 1} }},
		{"two functions of one name", true, func(p *Prog) { p.Funcs[1].Name = "main" }},
		{"functions without names", true, func(p *Prog) { p.Funcs[1].Name, p.Funcs[2].Name = "", "" }},
		{"slots of odd sizes", true, func(p *Prog) { p.Funcs[0].Slots = []int{0, -1, 7, 1 << 40} }},
	})
}

// TestCallsFollowParams: as many arguments as the function that is called has parameters now.
func TestCallsFollowParams(t *testing.T) {
	turnAll(t, []change{
		{"a parameter more", false, func(p *Prog) { f := &p.Funcs[1]; f.Params, f.Secret, f.Regs = 2, []bool{true, false}, 2 }},
		{"a parameter and an argument more", true, func(p *Prog) {
			f := &p.Funcs[1]
			f.Params, f.Secret, f.Regs = 2, []bool{true, false}, 2
			p.Funcs[0].Blocks[0].Ins[3].Args = []Arg{N(1), R(2)}
		}},
		{"a call of main", true, func(p *Prog) { p.Funcs[1].Blocks[0].Ins = []Ins{{Op: Call, Dst: -1, Ref: 0}} }},
	})
}

func TestGlobals(t *testing.T) {
	changes := []change{
		{"no globals", true, func(p *Prog) { p.Globals, p.Data = nil, 0 }},
		{"more data than globals", true, func(p *Prog) { p.Data = api.MaxData }},
		{"more than MaxData", false, func(p *Prog) { p.Data = api.MaxData + 1 }},
		{"the most data", false, func(p *Prog) { p.Data = math.MaxInt }},
		{"fewer than no data", false, func(p *Prog) { p.Globals, p.Data = nil, -1 }},
		{"a global beyond the data", false, func(p *Prog) { p.Data = 31 }},
		{"a global behind the data", false, func(p *Prog) { p.Globals[1].At = 25 }},
		{"a global ahead of the data", false, func(p *Prog) { p.Globals[0].At = -1 }},
		{"a global at the last offset", false, func(p *Prog) { p.Globals[1].At = math.MaxInt }},
		{"a global at the first offset", false, func(p *Prog) { p.Globals[1].At = math.MinInt }},
		{"globals over one another", true, func(p *Prog) { p.Globals[1].At = 8 }},
		{"globals in another order", true, func(p *Prog) { slices.Reverse(p.Globals) }},
		{"globals of one name", true, func(p *Prog) { p.Globals[1].Name = "x" }},
		{"an empty global at the end", true, func(p *Prog) { p.Globals = append(p.Globals, GlobalVar{At: 32}) }},
		{"an empty global behind the end", false, func(p *Prog) { p.Globals = append(p.Globals, GlobalVar{At: 33}) }},
		{"an empty global ahead of the data", false, func(p *Prog) { p.Globals = append(p.Globals, GlobalVar{At: -1}) }},
		{"a size below 0", false, func(p *Prog) { p.Globals = append(p.Globals, GlobalVar{Size: -1}) }},
		{"a size below 0, and such a part", false, func(p *Prog) {
			p.Globals = append(p.Globals, GlobalVar{At: 8, Size: -1, Parts: []Part{{Kind: Public, N: -1}}})
		}},
		{"the greatest size", false, func(p *Prog) {
			p.Globals = append(p.Globals, GlobalVar{At: 8, Size: math.MaxInt, Parts: []Part{{Kind: Public, N: math.MaxInt}}})
		}},
		{"a global of all data", true, func(p *Prog) {
			p.Globals, p.Data = []GlobalVar{{Size: api.MaxData, Parts: []Part{{Kind: Hidden, N: api.MaxData}}}, {}}, api.MaxData
		}},
	}
	turnAll(t, changes)
}

func TestParts(t *testing.T) {
	for i, x := range []struct {
		size  int
		parts []Part
		valid bool
	}{
		{0, nil, true}, {1, nil, false}, {16, nil, false}, {0, []Part{{}, {}, {Kind: Public}, {Kind: Hidden}}, true},
		{3, []Part{{Data: []byte{1, 2, 3}}}, true}, {2, []Part{{Data: []byte{1, 2, 3}}}, false}, {4, []Part{{Data: []byte{1, 2, 3}}}, false}, {3, []Part{{Data: []byte{1, 2, 3}, N: 7}}, true}, {3, []Part{{N: 3}}, false}, {3, []Part{{Data: []byte{1, 2, 3}, N: -1}}, true},
		{8, []Part{{Kind: FuncAt}}, true}, {8, []Part{{Kind: FuncAt, N: 2}}, true}, {8, []Part{{Kind: FuncAt, N: 3}}, false}, {8, []Part{{Kind: FuncAt, N: -1}}, false}, {8, []Part{{Kind: FuncAt, N: 1, Data: []byte{1}}}, true}, {7, []Part{{Kind: FuncAt, N: 1}}, false}, {9, []Part{{Kind: FuncAt, N: 1}}, false}, {1, []Part{{Kind: FuncAt, N: 1}}, false}, {8, []Part{{Kind: FuncAt, N: math.MinInt}}, false}, {8, []Part{{Kind: FuncAt, N: math.MaxInt}}, false},
		{5, []Part{{Kind: Public, N: 5}}, true}, {5, []Part{{Kind: Public, N: 4}}, false}, {5, []Part{{Kind: Public, N: 6}}, false}, {5, []Part{{Kind: Public, N: 5, Data: []byte{1}}}, true}, {0, []Part{{Kind: Public, N: -1}}, false},
		{5, []Part{{Kind: Hidden, N: 5}}, true}, {5, []Part{{Kind: Hidden, N: 4}}, false}, {5, []Part{{Kind: Hidden, N: 6}}, false}, {5, []Part{{Kind: Hidden, N: 5, Data: []byte{1}}}, true}, {0, []Part{{Kind: Hidden, N: -1}}, false},
		{4, []Part{{Kind: Public, N: 5}, {Kind: Public, N: -1}}, false}, {4, []Part{{Kind: Hidden, N: -1}, {Kind: Public, N: 5}}, false}, {2, []Part{{Kind: Public, N: math.MaxInt}, {Kind: Public, N: math.MaxInt}, {Kind: Public, N: 4}}, false}, {0, []Part{{Kind: Public, N: math.MinInt}, {Kind: Public, N: math.MinInt}}, false},
		{16, []Part{{Kind: FuncAt}, {Kind: FuncAt}}, true}, {14, []Part{{Kind: Hidden, N: 2}, {Data: []byte{9}}, {Kind: FuncAt}, {Kind: Public, N: 3}}, true}, {13, []Part{{Kind: Hidden, N: 2}, {Data: []byte{9}}, {Kind: FuncAt}, {Kind: Public, N: 3}}, false}, {15, []Part{{Kind: Hidden, N: 2}, {Data: []byte{9}}, {Kind: FuncAt}, {Kind: Public, N: 3}}, false},
		{5, []Part{{Kind: 4, N: 5}}, false}, {5, []Part{{Kind: -1, N: 5}}, false}, {0, []Part{{Kind: 4}}, false}, {0, []Part{{Kind: math.MinInt}}, false}, {5, []Part{{Kind: Public, N: 5}, {Kind: 4}}, false},
	} {
		p := sample()
		p.Globals = append(p.Globals, GlobalVar{At: 4, Size: x.size, Parts: x.parts})
		if !checked(t, p, x.valid) {
			t.Errorf("%d: %d bytes, parts %+v", i, x.size, x.parts)
		}
	}
}

// A use is what the chapter's table and its rules say of an operation: whether it has a result, and which of its fields it uses.
type use struct {
	result     string // must, may or never
	a, b, args bool
	size       bool
	many       int // of what Ref refers to; 0: of nothing
}

// useOf: in the sample's main.
func useOf(op int) use {
	u := use{result: "must", a: true}
	switch {
	case slices.Contains(binary(), op):
		u.b = true
	case op == Ext || op == Load:
		u.size = true
	case op == Global:
		u.a, u.many = false, 2
	case op == Slot:
		u.a, u.many = false, 2
	case op == FuncOf:
		u.a, u.many = false, 3
	case op == Store:
		u.result, u.b, u.size = "never", true, true
	case op == Call:
		u.result, u.a, u.args, u.many = "may", false, true, 3
	case op == CallAt:
		u.result, u.args = "may", true
	case op == Out:
		u.result = "never"
	}
	return u
}

// registers are some numbers of registers, of which main has 0 to 2.
func registers() []int { return []int{-2, -1, 0, 2, 3} }

func readable(a Arg) bool { return a.Reg >= -1 && a.Reg <= 2 }

// valid: what the chapter says of an instruction of the sample's main.
func valid(x Ins) bool {
	if !slices.Contains(operations(), x.Op) {
		return false
	}
	u := useOf(x.Op)
	written := x.Dst >= 0 && x.Dst <= 2
	if u.result == "must" && !written || u.result == "may" && !written && x.Dst != -1 || u.result == "never" && x.Dst != -1 {
		return false
	}
	if u.a && !readable(x.A) || u.b && !readable(x.B) || u.size && !slices.Contains([]int{1, 2, 4, 8}, x.Size) {
		return false
	}
	if u.many > 0 && (x.Ref < 0 || x.Ref >= u.many) {
		return false
	}
	for _, a := range x.Args {
		if u.args && !readable(a) {
			return false
		}
	}
	switch x.Op {
	case Call:
		return len(x.Args) == []int{0, 1, 6}[x.Ref]
	case CallAt:
		return len(x.Args) <= 6
	}
	return true
}

// put checks a program whose main has this instruction.
func put(t *testing.T, x Ins) {
	t.Helper()
	p := sample()
	l := &p.Funcs[0].Blocks[1].Ins
	*l = append(*l, x)
	if !checked(t, p, valid(x)) {
		t.Fatalf("with %+v", x)
	}
}

// right is a valid instruction of an operation.
func right(op int) Ins {
	x := Ins{Op: op, Dst: 1, A: R(0), B: N(4), Size: 4, Ref: 1, Args: []Arg{R(2)}}
	if op == Store || op == Out {
		x.Dst = -1
	}
	return x
}

// TestFields: each field of an instruction, and every two of them.
func TestFields(t *testing.T) {
	lists := [][]Arg{nil, {R(0)}, {N(4)}, {R(2), N(1)}, {R(3)}, {R(-2)}, {N(1), R(3)}, {R(3), N(1)}}
	lists = append(lists, make([]Arg, 5), make([]Arg, 6), make([]Arg, 7), []Arg{N(0), N(0), N(0), N(0), N(0), R(3)})
	for _, op := range slices.Concat(operations(), others()) {
		put(t, right(op))
		changes := []func(x *Ins){}
		for _, n := range append(registers(), 1, math.MinInt, math.MaxInt) {
			changes = append(changes, func(x *Ins) { x.Dst = n }, func(x *Ins) { x.A.Reg = n }, func(x *Ins) { x.B.Reg = n }, func(x *Ins) { x.Ref = n }, func(x *Ins) { x.Off = int64(n) }, func(x *Ins) { x.A = Arg{Reg: -1, Num: int64(n)} })
		}
		for n := -9; n <= 17; n++ {
			changes = append(changes, func(x *Ins) { x.Size = n })
		}
		for _, n := range []int{math.MinInt, math.MaxInt, 256 + 4, 1<<32 + 8} {
			changes = append(changes, func(x *Ins) { x.Size = n })
		}
		for _, l := range lists {
			changes = append(changes, func(x *Ins) { x.Args = l })
		}
		changes = append(changes, func(x *Ins) { x.Signed = true }, func(x *Ins) { x.Secret = true })
		for _, one := range changes {
			for _, other := range changes {
				x := right(op)
				one(&x)
				other(&x)
				put(t, x)
			}
		}
	}
}

// TestRightKinds: of each operation there is a valid instruction, whatever is in the fields that it doesn't use.
func TestRightKinds(t *testing.T) {
	for _, op := range operations() {
		x := right(op)
		if !valid(x) {
			t.Errorf("%d: none", op)
		}
		u := useOf(op)
		if !u.a {
			x.A = R(9)
		}
		if !u.b {
			x.B = R(-9)
		}
		if !u.args {
			x.Args = make([]Arg, 20)
			x.Args[3] = R(9)
		}
		if !u.size {
			x.Size = 3
		}
		if u.many == 0 {
			x.Ref = -9
		}
		put(t, x)
		if !valid(x) {
			t.Errorf("%d: none with other fields", op)
		}
	}
}

func TestEnds(t *testing.T) {
	numbers := []int{-2, -1, 0, 2, 3, 4, math.MinInt, math.MaxInt}
	args := []Arg{N(7), R(0), R(2), R(3), R(-2), R(math.MinInt), R(math.MaxInt)}
	ops := slices.Concat([]int{Eq, Ne, Lt, Le, Ult, Ule}, []int{0, -1, Shr, Ext, Const, Out, 31, math.MinInt, math.MaxInt})
	block := func(n int) bool { return n >= 0 && n <= 3 }
	for _, kind := range []int{Jump, Branch, Ret, 0, 4, -1, math.MinInt, math.MaxInt} {
		for _, op := range ops {
			for _, a := range args {
				for _, b := range args {
					for _, to := range numbers {
						for _, other := range numbers {
							x := Term{Kind: kind, Op: op, A: a, B: b, To: to, Else: other}
							want := kind == Jump && block(to) || kind == Ret && readable(a) ||
								kind == Branch && slices.Contains(comparisons(), op) && readable(a) && readable(b) && block(to) && block(other)
							p := sample()
							p.Funcs[0].Blocks[2].Term = x
							if !checked(t, p, want) {
								t.Fatalf("with %+v", x)
							}
						}
					}
				}
			}
		}
	}
}

// TestEveryPosition: a fault is found wherever an instruction stands.
func TestEveryPosition(t *testing.T) {
	for i, f := range sample().Funcs {
		for j, block := range f.Blocks {
			for k := range len(block.Ins) + 1 {
				for _, bad := range []Ins{{}, {Op: Const, Dst: -1, A: N(1)}, {Op: Copy, Dst: 0, A: R(99)}} {
					p := sample()
					b := &p.Funcs[i].Blocks[j]
					b.Ins = slices.Insert(b.Ins, k, bad)
					if !checked(t, p, false) {
						t.Errorf("with %+v at %d, %d, %d", bad, i, j, k)
					}
				}
			}
			p := sample()
			p.Funcs[i].Blocks[j].Term = Term{}
			if !checked(t, p, false) {
				t.Errorf("without an end at %d, %d", i, j)
			}
		}
	}
}

// TestRightChangesNothing: neither a valid program nor another one.
func TestRightChangesNothing(t *testing.T) {
	p := sample()
	Right(p)
	if !reflect.DeepEqual(p, sample()) {
		t.Error("a valid program has changed")
	}
	p.Data = 1
	Right(p)
	p.Data = 32
	if !reflect.DeepEqual(p, sample()) {
		t.Error("a program has changed")
	}
}
