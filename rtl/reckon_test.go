package rtl

import (
	"math"
	"math/big"
	"slices"
	"testing"
)

func TestReckon(t *testing.T) {
	const least, most = math.MinInt64, math.MaxInt64
	for i, x := range []struct {
		op         int
		a, b, want int64
	}{
		{Add, 2, 3, 5}, {Add, most, 1, least}, {Add, least, -1, most}, {Add, -1, 1, 0}, {Sub, 2, 3, -1}, {Sub, least, 1, most}, {Sub, 0, least, least}, {Mul, -3, 5, -15}, {Mul, least, -1, least}, {Mul, 1 << 32, 1 << 32, 0}, {Mul, 1<<32 + 1, 1<<32 + 1, 1<<33 + 1},
		{And, 12, 10, 8}, {And, -1, least, least}, {Or, 12, 10, 14}, {Or, least, 1, least + 1}, {Xor, 12, 10, 6}, {Xor, -1, least, most},
		{Div, 7, 2, 3}, {Div, -7, 2, -3}, {Div, 7, -2, -3}, {Div, -7, -2, 3}, {Div, least, 1, least}, {Div, least + 1, -1, most}, {Div, least, 2, least / 2}, {Div, 0, -1, 0}, {Div, 5, least, 0}, {Div, least, least, 1},
		{Rem, 7, 2, 1}, {Rem, -7, 2, -1}, {Rem, 7, -2, 1}, {Rem, -7, -2, -1}, {Rem, least, 1, 0}, {Rem, least + 1, -1, 0}, {Rem, least, 3, -2}, {Rem, 5, least, 5}, {Rem, least, most, -1},
		{Udiv, 7, 2, 3}, {Udiv, -1, 2, most}, {Udiv, -7, 2, most - 3}, {Udiv, 7, -2, 0}, {Udiv, -1, -2, 1}, {Udiv, least, -1, 0}, {Udiv, least, 2, 1 << 62}, {Udiv, -1, 1, -1},
		{Urem, 7, 2, 1}, {Urem, -1, 10, 5}, {Urem, -7, 2, 1}, {Urem, 7, -2, 7}, {Urem, -1, -2, 1}, {Urem, least, -1, least}, {Urem, -1, least, most},
		{Shl, 1, 4, 16}, {Shl, 1, 63, least}, {Shl, 1, 64, 1}, {Shl, 1, 65, 2}, {Shl, 3, 63, least}, {Shl, 1, -1, least}, {Shl, 1, -64, 1}, {Shl, 1, -62, 4}, {Shl, 5, least, 5}, {Shl, 1, most, least}, {Shl, 1, 256, 1}, {Shl, 1, 1<<32 + 3, 8},
		{Sar, 16, 4, 1}, {Sar, -16, 4, -1}, {Sar, -1, 63, -1}, {Sar, least, 63, -1}, {Sar, least, 64, least}, {Sar, -8, 65, -4}, {Sar, -8, -63, -4}, {Sar, -5, 1, -3}, {Sar, most, 62, 1},
		{Shr, 16, 4, 1}, {Shr, -1, 60, 15}, {Shr, -1, 63, 1}, {Shr, -1, 64, -1}, {Shr, least, 63, 1}, {Shr, -1, 65, most}, {Shr, -1, -63, most}, {Shr, -1, least, -1},
		{Eq, 5, 5, 1}, {Eq, 5, -5, 0}, {Ne, 5, 5, 0}, {Ne, 5, -5, 1}, {Lt, -1, 0, 1}, {Lt, 0, -1, 0}, {Lt, 5, 5, 0}, {Lt, least, most, 1}, {Le, -1, 0, 1}, {Le, 0, -1, 0}, {Le, 5, 5, 1}, {Le, most, least, 0},
		{Ult, -1, 0, 0}, {Ult, 0, -1, 1}, {Ult, 5, 5, 0}, {Ult, most, least, 1}, {Ule, -1, 0, 0}, {Ule, 0, -1, 1}, {Ule, 5, 5, 1}, {Ule, least, most, 0},
	} {
		if got, ok := Reckon(x.op, x.a, x.b); got != x.want || !ok {
			t.Errorf("%d: Reckon(%d, %d, %d) = %d, %v, want %d", i, x.op, x.a, x.b, got, ok, x.want)
		}
	}
}

func TestUndefinedQuotients(t *testing.T) {
	for _, op := range quotients() {
		for _, a := range []int64{0, 1, -1, 5, math.MinInt64, math.MaxInt64} {
			if got, ok := Reckon(op, a, 0); got != 0 || ok {
				t.Errorf("Reckon(%d, %d, 0) = %d, %v", op, a, got, ok)
			}
		}
		got, ok := Reckon(op, math.MinInt64, -1)
		if signed := op == Div || op == Rem; ok == signed || signed && got != 0 {
			t.Errorf("Reckon(%d, -2^63, -1) = %d, %v", op, got, ok)
		}
	}
}

// unsigned is the number that 64 bits stand for without a sign.
func unsigned(n int64) *big.Int { return new(big.Int).SetUint64(uint64(n)) }

// wrapped is a number modulo 2^64.
func wrapped(n *big.Int) int64 {
	all := new(big.Int).Lsh(big.NewInt(1), 64)
	return int64(new(big.Int).Mod(n, all).Uint64())
}

// result is what Reckon must return for what is no comparison, reckoned in numbers without end; for quotients b isn't 0.
func result(op int, a, b int64) int64 {
	n, p, q := new(big.Int), big.NewInt(a), big.NewInt(b)
	far := uint(new(big.Int).Mod(q, big.NewInt(64)).Uint64())
	switch op {
	case Add:
		n.Add(p, q)
	case Sub:
		n.Sub(p, q)
	case Mul:
		n.Mul(p, q)
	case And:
		n.And(p, q)
	case Or:
		n.Or(p, q)
	case Xor:
		n.Xor(p, q)
	case Div:
		n.Quo(p, q)
	case Rem:
		n.Rem(p, q)
	case Udiv:
		n.Quo(unsigned(a), unsigned(b))
	case Urem:
		n.Rem(unsigned(a), unsigned(b))
	case Shl:
		n.Lsh(p, far)
	case Sar:
		n.Rsh(p, far) // rounds down, as an arithmetic shift does
	case Shr:
		n.Rsh(unsigned(a), far)
	}
	return wrapped(n)
}

// holds is what Holds must return.
func holds(op int, a, b int64) bool {
	signed, plain := big.NewInt(a).Cmp(big.NewInt(b)), unsigned(a).Cmp(unsigned(b))
	return op == Eq && signed == 0 || op == Ne && signed != 0 || op == Lt && signed < 0 || op == Le && signed <= 0 || op == Ult && plain < 0 || op == Ule && plain <= 0
}

// edges are numbers around the powers of 2, with and without a sign, and some in between.
func edges() []int64 {
	l := []int64{}
	for k := range 64 {
		n := int64(1) << k
		l = append(l, n-1, n, n+1, -n, -n-1, 1-n)
	}
	for i := range 20 {
		n := uint64(i+1) * 0x9E3779B97F4A7C15
		l = append(l, int64(n), int64(n>>(2*i+10)))
	}
	slices.Sort(l)
	return slices.Compact(l)
}

func TestReckonAgrees(t *testing.T) {
	l := edges()
	for _, a := range l {
		for _, b := range l {
			for _, op := range slices.Concat(arithmetic(), quotients(), shifts()) {
				overflows := (op == Div || op == Rem) && a == math.MinInt64 && b == -1
				if slices.Contains(quotients(), op) && b == 0 || overflows {
					continue // TestUndefinedQuotients
				}
				if got, ok := Reckon(op, a, b); got != result(op, a, b) || !ok {
					t.Fatalf("Reckon(%d, %d, %d) = %d, %v, want %d", op, a, b, got, ok, result(op, a, b))
				}
			}
			for _, op := range comparisons() {
				want := holds(op, a, b)
				if got := Holds(op, a, b); got != want {
					t.Fatalf("Holds(%d, %d, %d) = %v", op, a, b, got)
				}
				if got, ok := Reckon(op, a, b); (got == 1) != want || got&^1 != 0 || !ok {
					t.Fatalf("Reckon(%d, %d, %d) = %d, %v", op, a, b, got, ok)
				}
			}
		}
	}
}

// TestReckonOthers: what these answer is unspecified, but that they answer is not.
func TestReckonOthers(t *testing.T) {
	for _, op := range slices.Concat(operations(), others()) {
		for _, a := range []int64{0, 1, -1, math.MinInt64, math.MaxInt64} {
			for _, b := range []int64{0, 1, -1, math.MinInt64, math.MaxInt64} {
				Reckon(op, a, b)
				Holds(op, a, b)
			}
		}
	}
}

func TestWiden(t *testing.T) {
	for i, x := range []struct {
		n      int64
		size   int
		signed bool
		want   int64
	}{
		{0x1FF, 1, true, -1}, {0x1FF, 1, false, 255}, {0x17F, 1, true, 127}, {128, 1, true, -128}, {-129, 1, true, 127}, {-1, 1, false, 255},
		{0x18000, 2, true, -0x8000}, {0x18000, 2, false, 0x8000}, {0x7FFF, 2, true, 0x7FFF}, {-1, 2, false, 0xFFFF},
		{1 << 31, 4, true, -1 << 31}, {1 << 31, 4, false, 1 << 31}, {1 << 32, 4, true, 0}, {-1, 4, false, 1<<32 - 1}, {-1, 4, true, -1},
		{1 << 23, 3, true, -1 << 23}, {-1, 3, false, 1<<24 - 1}, {1 << 39, 5, true, -1 << 39}, {-1, 5, false, 1<<40 - 1}, {1 << 47, 6, true, -1 << 47}, {-1, 6, false, 1<<48 - 1}, {1 << 55, 7, true, -1 << 55}, {-1, 7, false, 1<<56 - 1}, {1 << 56, 7, true, 0},
		{-1, 8, false, -1}, {math.MinInt64, 8, true, math.MinInt64}, {1 << 40, 8, false, 1 << 40},
		{-1, 0, false, -1}, {300, 0, true, 300}, {-1, 9, false, -1}, {300, -1, false, 300}, {300, 64, true, 300}, {-1, math.MinInt, false, -1}, {-1, math.MaxInt, false, -1}, {300, 1<<61 + 1, false, 300}, {300, -7, true, 300}, {300, 1<<32 + 1, true, 300},
	} {
		if got := Widen(x.n, x.size, x.signed); got != x.want {
			t.Errorf("%d: Widen(%d, %d, %v) = %d, want %d", i, x.n, x.size, x.signed, got, x.want)
		}
	}
}

func TestWidenAgrees(t *testing.T) {
	for size := -3; size <= 20; size++ {
		for _, n := range edges() {
			want, plain := n, n
			if 1 <= size && size <= 7 {
				all := new(big.Int).Lsh(big.NewInt(1), uint(8*size))
				low := new(big.Int).Mod(big.NewInt(n), all)
				plain = low.Int64()
				if low.Bit(8*size-1) == 1 {
					low.Sub(low, all)
				}
				want = low.Int64()
			}
			if got := Widen(n, size, true); got != want {
				t.Fatalf("Widen(%d, %d, true) = %d, want %d", n, size, got, want)
			}
			if got := Widen(n, size, false); got != plain {
				t.Fatalf("Widen(%d, %d, false) = %d, want %d", n, size, got, plain)
			}
		}
	}
}
