package rtl

import (
	"math"
	"slices"
	"testing"
)

// The chapter's table of operations, row by row.
func first() []int       { return []int{Const, Copy} }
func arithmetic() []int  { return []int{Add, Sub, Mul, And, Or, Xor} }
func quotients() []int   { return []int{Div, Rem, Udiv, Urem} }
func shifts() []int      { return []int{Shl, Sar, Shr} }
func comparisons() []int { return []int{Eq, Ne, Lt, Le, Ult, Ule} }
func places() []int      { return []int{Global, Slot, FuncOf} }
func binary() []int      { return slices.Concat(arithmetic(), quotients(), shifts(), comparisons()) }
func operations() []int {
	return slices.Concat(first(), binary(), []int{Ext}, places(), []int{Load, Store, Call, CallAt, Out})
}

// others are numbers that are no operation.
func others() []int {
	return []int{0, -1, -2, 31, 32, 100, 256 + Add, 1<<32 + Add, math.MinInt, math.MaxInt}
}

func TestOperationsAreDistinct(t *testing.T) {
	l := operations()
	slices.Sort(l)
	if len(slices.Compact(l)) != 30 || l[0] != 1 || l[29] != 30 {
		t.Error(l)
	}
}

func TestArguments(t *testing.T) {
	for _, r := range []int{0, 1, 7, 4000, math.MaxInt} {
		if a := R(r); a != (Arg{Reg: r}) {
			t.Errorf("R(%d) = %+v", r, a)
		}
	}
	for _, n := range []int64{0, 1, -1, 7, math.MinInt64, math.MaxInt64} {
		if a := N(n); a != (Arg{Reg: -1, Num: n}) {
			t.Errorf("N(%d) = %+v", n, a)
		}
	}
}

func TestClasses(t *testing.T) {
	pure := slices.Concat(first(), binary(), []int{Ext}, places())
	for _, op := range slices.Concat(operations(), others()) {
		for _, x := range []struct {
			name   string
			answer func(int) bool
			those  []int
		}{{"Pure", Pure, pure}, {"Two", Two, binary()}, {"Traps", Traps, quotients()}} {
			if got, want := x.answer(op), slices.Contains(x.those, op); got != want {
				t.Errorf("%s(%d) = %v, want %v", x.name, op, got, want)
			}
		}
	}
}

func TestReads(t *testing.T) {
	x := Ins{Dst: 5, A: R(1), B: N(2), Size: 4, Ref: 3, Off: 9, Args: []Arg{R(4), N(-6)}}
	for _, op := range slices.Concat(operations(), others()) {
		want := []Arg{R(1)}
		switch {
		case slices.Contains(places(), op):
			want = nil
		case op == Call:
			want = []Arg{R(4), N(-6)}
		case op == CallAt:
			want = []Arg{R(1), R(4), N(-6)}
		case slices.Contains(binary(), op) || op == Store:
			want = []Arg{R(1), N(2)}
		}
		x.Op = op
		if got := x.Reads(); !slices.Equal(got, want) {
			t.Errorf("%d reads %v, want %v", op, got, want)
		}
	}
}

func TestReadsOfCallsWithoutArguments(t *testing.T) {
	for _, args := range [][]Arg{nil, {}} {
		if got := (Ins{Op: Call, A: R(1), B: R(2), Args: args}).Reads(); len(got) != 0 {
			t.Errorf("Call reads %v", got)
		}
		if got := (Ins{Op: CallAt, A: N(8), B: R(2), Args: args}).Reads(); !slices.Equal(got, []Arg{N(8)}) {
			t.Errorf("CallAt reads %v", got)
		}
	}
}

// TestReadsSharesNothing: what is done to the answer isn't done to the instruction, nor to the memory behind its arguments.
func TestReadsSharesNothing(t *testing.T) {
	for _, op := range []int{Call, CallAt} {
		memory := []Arg{R(1), R(2), R(3), R(4)}
		x := Ins{Op: op, A: R(9), Args: memory[:2]}
		l := x.Reads()
		for i := range l {
			l[i] = N(7)
		}
		_ = append(l, N(8), N(8))
		l = x.Reads()
		_ = append(l[:1], N(8), N(8))
		if !slices.Equal(memory, []Arg{R(1), R(2), R(3), R(4)}) {
			t.Errorf("%d: the arguments are %v now", op, memory)
		}
	}
}

func TestTerms(t *testing.T) {
	for _, x := range []struct {
		term  Term
		reads []Arg
		next  []int
	}{
		{Term{Kind: Jump, Op: Lt, A: R(1), B: R(2), To: 3, Else: 4}, nil, []int{3}},
		{Term{Kind: Branch, Op: Lt, A: R(1), B: R(2), To: 3, Else: 4}, []Arg{R(1), R(2)}, []int{3, 4}},
		{Term{Kind: Branch, Op: Eq, A: N(1), B: N(2), To: 4, Else: 3}, []Arg{N(1), N(2)}, []int{4, 3}},
		{Term{Kind: Branch, Op: Eq, A: R(1), B: R(1), To: 3, Else: 3}, []Arg{R(1), R(1)}, []int{3, 3}},
		{Term{Kind: Ret, Op: Lt, A: R(1), B: R(2), To: 3, Else: 4}, []Arg{R(1)}, nil},
		{Term{Kind: Ret, A: N(-5)}, []Arg{N(-5)}, nil},
	} {
		if got := x.term.Reads(); !slices.Equal(got, x.reads) {
			t.Errorf("%+v reads %v, want %v", x.term, got, x.reads)
		}
		if got := x.term.Next(); !slices.Equal(got, x.next) {
			t.Errorf("behind %+v follow %v, want %v", x.term, got, x.next)
		}
	}
	for _, kind := range []int{0, 4, -1, math.MinInt, math.MaxInt} { // no kinds of ends
		x := Term{Kind: kind, Op: Eq, A: R(1), B: R(2), To: 3, Else: 4}
		if len(x.Reads()) != 0 || len(x.Next()) != 0 {
			t.Errorf("kind %d reads %v, leads to %v", kind, x.Reads(), x.Next())
		}
	}
}

func TestPlacesOfThings(t *testing.T) {
	if DataBase != 0x10000 || FuncBase != 0x400000 || FuncStep != 16 || StackTop != 0x8000000 || StackSize != 0x4000000 {
		t.Error(DataBase, FuncBase, FuncStep, StackTop, StackSize)
	}
}
