package rtl

import (
	"math"
	"slices"
	"strconv"
	"testing"
)

// TestShow: the format is unspecified; it must tell what differs apart.
func TestShow(t *testing.T) {
	x := Ins{Dst: 5, A: R(1), B: N(2), Size: 4, Signed: true, Ref: 3, Off: 9, Args: []Arg{R(4), N(-6)}}
	seen := map[string]int{}
	for _, op := range operations() {
		x.Op = op
		text := x.Show()
		if before, ok := seen[text]; ok || text == "" {
			t.Errorf("%d is shown as %q, as %d is", op, text, before)
		}
		seen[text] = op
	}
	for _, y := range []struct {
		x    Ins
		want string
	}{
		{Ins{Op: Const, Dst: 0, A: N(math.MinInt64)}, "r0 = const -9223372036854775808"}, {Ins{Op: Copy, Dst: 2, A: R(1)}, "r2 = copy r1"},
		{Ins{Op: Add, Dst: 1, A: R(0), B: N(3)}, "r1 = add r0, 3"}, {Ins{Op: Ule, Dst: 1, A: N(0), B: R(3)}, "r1 = ule 0, r3"},
		{Ins{Op: Ext, Dst: 1, A: R(0), Size: 2, Signed: true}, "r1 = ext2s r0"}, {Ins{Op: Ext, Dst: 1, A: R(0), Size: 2}, "r1 = ext2u r0"},
		{Ins{Op: Load, Dst: 1, A: R(0), Size: 8, Off: 16, Secret: true}, "r1 = load8u [r0 + 16] secret"}, {Ins{Op: Load, Dst: 1, A: R(0), Size: 8, Off: math.MinInt64}, "r1 = load8u [r0 - 9223372036854775808]"},
		{Ins{Op: Store, Dst: -1, A: R(0), B: R(1), Size: 1}, "store1 [r0], r1"}, {Ins{Op: Global, Dst: 1, Ref: 2, Off: -8}, "r1 = global 2 - 8"}, {Ins{Op: Slot, Dst: 1, Ref: 2}, "r1 = slot 2"}, {Ins{Op: FuncOf, Dst: 1, Ref: 2}, "r1 = func 2"},
		{Ins{Op: Call, Dst: -1, Ref: 2}, "call 2()"}, {Ins{Op: CallAt, Dst: 3, A: R(2), Args: []Arg{R(4), N(-6)}}, "r3 = callat r2(r4, -6)"}, {Ins{Op: Out, Dst: -1, A: N(7)}, "out 7"},
		{Ins{Op: 0, Dst: -1, A: N(7)}, "op0 7"}, {Ins{Op: 31, Dst: -1, A: N(7)}, "op31 7"},
	} {
		if got := y.x.Show(); got != y.want {
			t.Errorf("%+v is shown as %q, want %q", y.x, got, y.want)
		}
	}
}

func TestShowFunc(t *testing.T) {
	f := Func{Name: "main", Params: 2, Secret: []bool{false, true}, Regs: 3, Slots: []int{8, 40}, Blocks: []Block{
		{Ins: []Ins{{Op: Add, Dst: 2, A: R(0), B: R(1)}, {Op: Out, Dst: -1, A: R(2)}}, Term: Term{Kind: Branch, Op: Lt, A: R(2), B: N(9), To: 0, Else: 1}},
		{Term: Term{Kind: Jump, To: 2}},
		{Term: Term{Kind: Ret, A: N(0)}},
	}}
	const want = "function main: 2 parameters, 3 registers\nsecret r1\nslot 0 of 8 bytes\nslot 1 of 40 bytes\nblock 0:\n\tr2 = add r0, r1\n\tout r2\n\tbranch lt r2, 9 to 0 else 1\nblock 1:\n\tjump 2\nblock 2:\n\tret 0\n"
	if got := f.Show(); got != want {
		t.Errorf("shown as\n%s", got)
	}
}

// TestShowWhatIsBroken: it ends, and doesn't panic.
func TestShowWhatIsBroken(t *testing.T) {
	numbers := []int{-1, 0, 7, math.MinInt, math.MaxInt}
	for _, op := range slices.Concat(operations(), others()) {
		for _, n := range numbers {
			x := Ins{Op: op, Dst: n, A: R(n), B: R(n), Size: n, Ref: n, Off: int64(n)}
			if x.Show() == "" {
				t.Errorf("%+v isn't shown", x)
			}
			for _, kind := range numbers {
				f := Func{Name: "\xFF\n" + strconv.Itoa(n), Params: n, Secret: []bool{true}, Regs: n, Slots: numbers, Blocks: []Block{{Ins: []Ins{x}, Term: Term{Kind: kind, Op: op, A: R(n), To: n}}}}
				if f.Show() == "" {
					t.Errorf("%+v isn't shown", f)
				}
			}
		}
	}
	if (Func{}).Show() == "" || (Ins{}).Show() == "" {
		t.Error("nothing isn't shown")
	}
}
