package arith

import (
	"math/big"
	"slices"
	"testing"

	"merlon/api"
)

// The reference reckons by the chapter's words, in numbers without end.

// value is the number that 64 bits stand for.
func value(x api.Type, n int64) *big.Int {
	if x.Signed {
		return big.NewInt(n)
	}
	return new(big.Int).SetUint64(uint64(n))
}

// represent is the number of x that is n modulo 2^(8 Size), as 64 bits.
func represent(x api.Type, n *big.Int) int64 {
	all := new(big.Int).Lsh(big.NewInt(1), uint(8*x.Size))
	n = new(big.Int).Mod(n, all)
	if x.Signed && n.Bit(8*x.Size-1) == 1 {
		n.Sub(n, all)
	}
	if n.Sign() < 0 {
		return n.Int64()
	}
	return int64(n.Uint64())
}

// operators are all that there are, binary ones and comparisons.
func operators() []string {
	return []string{"+", "-", "*", "&", "|", "^", "<<", ">>", "/", "%", "==", "!=", "<", ">", "<=", ">="}
}

// bin is what Bin must return.
func bin(op string, x api.Type, a, b int64) (int64, bool) {
	n, p, q := new(big.Int), value(x, a), value(x, b)
	switch op {
	case "+":
		n.Add(p, q)
	case "-":
		n.Sub(p, q)
	case "*":
		n.Mul(p, q)
	case "&":
		n.And(p, q)
	case "|":
		n.Or(p, q)
	case "^":
		n.Xor(p, q)
	case "<<":
		n.Lsh(p, far(x, b))
	case ">>":
		n.Rsh(p, far(x, b)) // rounds down, as an arithmetic shift does
	case "/", "%":
		least := x.Signed && x.Size == 8 && a == -1<<63
		if b == 0 || least && b == -1 {
			return 0, false
		}
		r := new(big.Int)
		n.QuoRem(p, q, r)
		if op == "%" {
			n = r
		}
	default:
		return 0, false
	}
	return represent(x, n), true
}

func far(x api.Type, b int64) uint {
	n := new(big.Int).SetUint64(uint64(b))
	return uint(n.Mod(n, big.NewInt(int64(8*x.Size))).Uint64())
}

// comparison is what Cmp must return.
func comparison(op string, x api.Type, a, b int64) int64 {
	order := value(x, a).Cmp(value(x, b))
	holds := map[int][]string{-1: {"<", "<=", "!="}, 0: {"==", "<=", ">="}, 1: {">", ">=", "!="}}
	if slices.Contains(holds[order], op) {
		return 1
	}
	return 0
}

// agree checks every operator of two numbers of a type.
func agree(t *testing.T, x api.Type, a, b int64) {
	t.Helper()
	for _, op := range operators() {
		got, ok := Bin(op, x, a, b)
		want, wanted := bin(op, x, a, b)
		if got != want || ok != wanted {
			t.Fatalf("Bin(%q, %+v, %d, %d) = %d, %v, want %d, %v", op, x, a, b, got, ok, want, wanted)
		}
		if got, want := Cmp(op, x, a, b), comparison(op, x, a, b); got != want {
			t.Fatalf("Cmp(%q, %+v, %d, %d) = %d, want %d", op, x, a, b, got, want)
		}
	}
}

// edges are numbers around the powers of 2 of that many bits, with and without a sign, and some in between.
func edges(bits int) []int64 {
	l := []int64{}
	for k := range bits {
		n := int64(1) << k
		l = append(l, n-1, n, n+1, -n, -n-1, 1-n)
	}
	for i := range 12 {
		n := uint64(i+1) * 0x9E3779B97F4A7C15
		l = append(l, int64(n), int64(n>>(64-uint(bits))))
	}
	slices.Sort(l)
	return slices.Compact(l)
}

// numbers are those edges that a type has.
func numbers(x api.Type) []int64 {
	l := []int64{}
	for _, n := range edges(8 * x.Size) {
		l = append(l, represent(x, big.NewInt(n)))
	}
	slices.Sort(l)
	return slices.Compact(l)
}

func TestFitOfEdges(t *testing.T) {
	for _, x := range types() {
		for _, n := range edges(64) {
			if got, want := Fit(x, n), represent(x, big.NewInt(n)); got != want {
				t.Fatalf("Fit(%+v, %d) = %d, want %d", x, n, got, want)
			}
		}
	}
}

func TestAllNumbersOfOneByte(t *testing.T) {
	for _, x := range []api.Type{i8, u8} {
		for a := range int64(256) {
			for b := range int64(256) {
				agree(t, x, represent(x, big.NewInt(a)), represent(x, big.NewInt(b)))
			}
		}
	}
}

func TestEdgesOfLongerTypes(t *testing.T) {
	for _, x := range types() {
		for _, a := range numbers(x) {
			for _, b := range numbers(x) {
				agree(t, x, a, b)
			}
		}
	}
}

// TestAllDistances: a shift takes any number for b, whether the type has it or not.
func TestAllDistances(t *testing.T) {
	for _, x := range types() {
		for _, a := range numbers(x) {
			for _, b := range edges(64) {
				for _, op := range []string{"<<", ">>"} {
					got, ok := Bin(op, x, a, b)
					if want, _ := bin(op, x, a, b); got != want || !ok {
						t.Fatalf("Bin(%q, %+v, %d, %d) = %d, %v, want %d", op, x, a, b, got, ok, want)
					}
				}
			}
		}
	}
}
