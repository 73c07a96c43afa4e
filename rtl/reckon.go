package rtl

import "math"

// Reckon: the result of a binary operation; false: a quotient that there is not, or no binary operation.
func Reckon(op int, a, b int64) (int64, bool) {
	switch op {
	case Add:
		return a + b, true
	case Sub:
		return a - b, true
	case Mul:
		return a * b, true
	case Div, Udiv, Rem, Urem:
		return divide(op, a, b)
	case And:
		return a & b, true
	case Or:
		return a | b, true
	case Xor:
		return a ^ b, true
	case Shl:
		return a << distance(b), true
	case Sar:
		return a >> distance(b), true
	case Shr:
		return int64(uint64(a) >> distance(b)), true
	case Eq, Ne, Lt, Le, Ult, Ule:
		if Holds(op, a, b) {
			return 1, true
		}
		return 0, true
	}
	return 0, false
}

// divide: a quotient or a remainder; false: there is none.
func divide(op int, a, b int64) (int64, bool) {
	signed := op == Div || op == Rem
	if b == 0 || signed && a == math.MinInt64 && b == -1 {
		return 0, false
	}
	switch op {
	case Div:
		return a / b, true
	case Rem:
		return a % b, true
	case Udiv:
		return int64(uint64(a) / uint64(b)), true
	}
	return int64(uint64(a) % uint64(b)), true
}

// distance: how far b shifts.
func distance(b int64) uint64 { return uint64(b) % 64 }

// Holds: does a comparison?
func Holds(op int, a, b int64) bool {
	switch op {
	case Eq:
		return a == b
	case Ne:
		return a != b
	case Lt:
		return a < b
	case Le:
		return a <= b
	case Ult:
		return uint64(a) < uint64(b)
	case Ule:
		return uint64(a) <= uint64(b)
	}
	return false
}

// Widen: the lowest bytes of a number, with their sign or without.
func Widen(n int64, size int, signed bool) int64 {
	if size < 1 || size > 7 {
		return n
	}
	above := 64 - 8*uint(size)
	if signed {
		return n << above >> above
	}
	return int64(uint64(n) << above >> above)
}
