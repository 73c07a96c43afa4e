package arith

import (
	"math"
	"testing"

	"merlon/api"
)

// Types that the tests are about.
var (
	i8  = api.Type{Kind: api.Int, Size: 1, Signed: true}
	u8  = api.Type{Kind: api.Int, Size: 1}
	i16 = api.Type{Kind: api.Int, Size: 2, Signed: true}
	u16 = api.Type{Kind: api.Int, Size: 2}
	i32 = api.Type{Kind: api.Int, Size: 4, Signed: true}
	u32 = api.Type{Kind: api.Int, Size: 4}
	i64 = api.Type{Kind: api.Int, Size: 8, Signed: true}
	u64 = api.Type{Kind: api.Int, Size: 8}
)

func types() []api.Type { return []api.Type{i8, u8, i16, u16, i32, u32, i64, u64} }

func TestFit(t *testing.T) {
	for i, x := range []struct {
		t       api.Type
		n, want int64
	}{
		{i8, 0, 0}, {i8, 127, 127}, {i8, 128, -128}, {i8, 200, -56}, {i8, 255, -1}, {i8, 256, 0}, {i8, -128, -128}, {i8, -129, 127}, {i8, -1, -1},
		{u8, 127, 127}, {u8, 128, 128}, {u8, 255, 255}, {u8, 256, 0}, {u8, 257, 1}, {u8, -1, 255}, {u8, -256, 0}, {u8, math.MinInt64, 0}, {u8, math.MaxInt64, 255},
		{i16, 32767, 32767}, {i16, 32768, -32768}, {i16, 65535, -1}, {i16, 65536, 0}, {i16, -32769, 32767}, {i16, 0x12345678, 0x5678}, {i16, 0x1234F678, -0x988},
		{u16, 65535, 65535}, {u16, 65536, 0}, {u16, -1, 65535}, {u16, -65537, 65535}, {u16, 0x1234F678, 0xF678},
		{i32, math.MaxInt32, math.MaxInt32}, {i32, 1 << 31, -1 << 31}, {i32, 1<<32 - 1, -1}, {i32, 1 << 32, 0}, {i32, -1<<31 - 1, math.MaxInt32}, {i32, math.MaxInt64, -1},
		{u32, 1 << 31, 1 << 31}, {u32, 1<<32 - 1, 1<<32 - 1}, {u32, 1 << 32, 0}, {u32, -1, 1<<32 - 1}, {u32, math.MinInt64, 0},
		{i64, math.MaxInt64, math.MaxInt64}, {i64, math.MinInt64, math.MinInt64}, {i64, -1, -1}, {i64, 1 << 32, 1 << 32},
		{u64, math.MaxInt64, math.MaxInt64}, {u64, math.MinInt64, math.MinInt64}, {u64, -1, -1}, {u64, 1 << 32, 1 << 32},
	} {
		if got := Fit(x.t, x.n); got != x.want {
			t.Errorf("%d: Fit(%+v, %d) = %d, want %d", i, x.t, x.n, got, x.want)
		}
	}
}

func TestBool(t *testing.T) {
	if Bool(true) != 1 || Bool(false) != 0 {
		t.Errorf("Bool = %d, %d", Bool(true), Bool(false))
	}
}

func TestBin(t *testing.T) {
	for i, x := range []struct {
		op         string
		t          api.Type
		a, b, want int64
	}{
		{"+", u8, 200, 100, 44}, {"+", i8, 127, 1, -128}, {"+", i8, -128, -128, 0}, {"+", i32, math.MaxInt32, 1, math.MinInt32}, {"+", u32, 1<<32 - 1, 1, 0},
		{"+", i64, math.MaxInt64, 1, math.MinInt64}, {"+", u64, -1, 1, 0}, {"+", i16, 30000, 30000, -5536},
		{"-", u8, 0, 1, 255}, {"-", i8, -128, 1, 127}, {"-", u32, 0, 1, 1<<32 - 1}, {"-", i64, math.MinInt64, 1, math.MaxInt64}, {"-", u64, 0, 1, -1}, {"-", i16, 5, 7, -2},
		{"*", u8, 16, 16, 0}, {"*", i8, 64, 2, -128}, {"*", i8, -128, -1, -128}, {"*", u16, 65535, 65535, 1}, {"*", u32, 1<<32 - 1, 1<<32 - 1, 1}, {"*", i64, math.MinInt64, -1, math.MinInt64}, {"*", u64, -1, -1, 1}, {"*", u64, 1 << 32, 1 << 32, 0},
		{"&", i8, -1, 85, 85}, {"&", u8, 240, 60, 48}, {"&", i64, -1, math.MinInt64, math.MinInt64},
		{"|", i8, -128, 127, -1}, {"|", u8, 240, 15, 255}, {"|", u64, math.MinInt64, 1, math.MinInt64 + 1},
		{"^", i8, -1, 1, -2}, {"^", u8, 255, 1, 254}, {"^", i64, math.MinInt64, -1, math.MaxInt64},
		{"/", i32, 7, 2, 3}, {"/", i32, -7, 2, -3}, {"/", i32, 7, -2, -3}, {"/", i32, -7, -2, 3}, {"/", u8, 200, 7, 28}, {"/", u64, -1, 2, math.MaxInt64}, {"/", u64, -1, -1, 1}, {"/", u64, 1, -1, 0}, {"/", u64, math.MinInt64, -1, 0}, {"/", i64, math.MinInt64, 1, math.MinInt64}, {"/", i64, math.MinInt64 + 1, -1, math.MaxInt64},
		{"%", i32, 7, 2, 1}, {"%", i32, -7, 2, -1}, {"%", i32, 7, -2, 1}, {"%", i32, -7, -2, -1}, {"%", u8, 200, 7, 4}, {"%", u64, -1, 10, 5}, {"%", u64, math.MinInt64, -1, math.MinInt64}, {"%", i64, math.MinInt64, 2, 0}, {"%", i64, math.MinInt64, math.MaxInt64, -1},
		// Below 8 bytes the least number by -1 is defined: modulo the type it is itself.
		{"/", i8, -128, -1, -128}, {"/", i16, -1 << 15, -1, -1 << 15}, {"/", i32, -1 << 31, -1, -1 << 31}, {"%", i8, -128, -1, 0}, {"%", i16, -1 << 15, -1, 0}, {"%", i32, -1 << 31, -1, 0},
	} {
		if got, ok := Bin(x.op, x.t, x.a, x.b); got != x.want || !ok {
			t.Errorf("%d: Bin(%q, %+v, %d, %d) = %d, %v, want %d", i, x.op, x.t, x.a, x.b, got, ok, x.want)
		}
	}
}

func TestShifts(t *testing.T) {
	for i, x := range []struct {
		op         string
		t          api.Type
		a, b, want int64
	}{
		{"<<", i32, 1, 4, 16}, {"<<", i32, 1, 31, math.MinInt32}, {"<<", u32, 1, 31, 1 << 31}, {"<<", u8, 255, 4, 240}, {"<<", i8, 3, 6, -64}, {"<<", i64, 1, 63, math.MinInt64}, {"<<", i32, -1, 1, -2},
		{">>", i32, -8, 1, -4}, {">>", i32, -1, 31, -1}, {">>", u32, 1<<32 - 8, 1, 1<<31 - 4}, {">>", u32, 1<<32 - 1, 31, 1}, {">>", i8, -128, 7, -1}, {">>", u8, 128, 7, 1}, {">>", i64, math.MinInt64, 63, -1}, {">>", u64, math.MinInt64, 63, 1}, {">>", u64, -1, 1, math.MaxInt64},
		// How far: modulo the type's bits, as a number without a sign.
		{"<<", i32, 1, 32, 1}, {"<<", i32, 1, 33, 2}, {"<<", u8, 1, 8, 1}, {"<<", u8, 1, 15, 128}, {"<<", i16, 1, 16, 1}, {"<<", i64, 1, 64, 1}, {"<<", u64, 1, 65, 2},
		{">>", i32, 64, 37, 2}, {">>", u8, 128, 9, 64}, {">>", i16, -4, 17, -2}, {">>", i64, -8, 66, -2}, {">>", u64, -8, 64, -8},
		{"<<", i32, 1, -1, math.MinInt32}, {"<<", u8, 1, -1, 128}, {"<<", u16, 1, -3, 1 << 13}, {"<<", u64, 1, -1, math.MinInt64}, {">>", i32, -8, -31, -4}, {">>", u32, 8, -30, 2}, {">>", i64, -1 << 10, -60, -64},
		{"<<", i32, 5, math.MinInt64, 5}, {"<<", i32, 5, math.MaxInt64, math.MinInt32}, {">>", u8, 128, math.MaxInt64, 1}, {"<<", i8, 1, 1 << 32, 1}, {"<<", i8, 1, 1<<32 + 3, 8},
	} {
		if got, ok := Bin(x.op, x.t, x.a, x.b); got != x.want || !ok {
			t.Errorf("%d: Bin(%q, %+v, %d, %d) = %d, %v, want %d", i, x.op, x.t, x.a, x.b, got, ok, x.want)
		}
	}
}

// none checks that there is no result of a binary operator.
func none(t *testing.T, op string, x api.Type, a, b int64) {
	t.Helper()
	if got, ok := Bin(op, x, a, b); got != 0 || ok {
		t.Errorf("Bin(%q, %+v, %d, %d) = %d, %v, want 0, false", op, x, a, b, got, ok)
	}
}

func TestUndefinedQuotients(t *testing.T) {
	for _, op := range []string{"/", "%"} {
		for _, x := range types() {
			for _, a := range []int64{0, 1, -1, 127, 128, math.MinInt64} {
				none(t, op, x, Fit(x, a), 0)
			}
		}
		none(t, op, i64, math.MinInt64, -1)
		for _, x := range []api.Type{i8, u8, i16, u16, i32, u32, u64} {
			if got, ok := Bin(op, x, math.MinInt64, -1); !ok || Fit(x, got) != got {
				t.Errorf("Bin(%q, %+v, -2^63, -1) = %d, %v: only a signed type of 8 bytes has no such quotient", op, x, got, ok)
			}
		}
	}
}

func TestNoSuchOperator(t *testing.T) {
	for _, x := range types() {
		for _, op := range []string{"", " ", "+ ", " +", "++", "+=", "--", "->", "**", "//", "%%", "&&", "||", "^^", "<<=", ">>=", "<", ">", "==", "!=", "<=", ">=", "=", "!", "~", "?", "a", "add", "<<<", "\x00", "\xff", "−", "×"} {
			none(t, op, x, 6, 3)
		}
		for _, op := range []string{"", " ", "= =", "=", "===", "!", "!==", "<>", "=<", "=>", "<=>", "<<", ">>", " <", "< ", "+", "&&", "less", "\x00", "\xff", "≤", "≠"} {
			for _, b := range []int64{2, 3, 4} {
				if got := Cmp(op, x, 3, b); got != 0 {
					t.Errorf("Cmp(%q, %+v, 3, %d) = %d, want 0", op, x, b, got)
				}
			}
		}
	}
}

func TestCmp(t *testing.T) {
	for i, x := range []struct {
		t    api.Type
		a, b int64
		want string // of a and b what holds: <, = or >
	}{
		{i8, -1, 0, "<"}, {i8, -128, 127, "<"}, {i8, 5, 5, "="}, {u8, 255, 0, ">"}, {u8, 127, 128, "<"}, {u8, 255, 255, "="},
		{i16, -1, 1, "<"}, {u16, 65535, 1, ">"}, {i32, math.MinInt32, math.MaxInt32, "<"}, {i32, -5, -6, ">"}, {i32, -6, -6, "="}, {u32, 1 << 31, 1<<31 - 1, ">"}, {u32, 1<<32 - 1, 0, ">"},
		{i64, -1, 0, "<"}, {i64, math.MinInt64, math.MaxInt64, "<"}, {i64, math.MaxInt64, math.MinInt64, ">"}, {i64, math.MinInt64, math.MinInt64, "="}, {i64, 1 << 32, 0, ">"},
		{u64, -1, 0, ">"}, {u64, math.MinInt64, math.MaxInt64, ">"}, {u64, math.MaxInt64, math.MinInt64, "<"}, {u64, -1, -2, ">"}, {u64, -1, -1, "="}, {u64, 0, 1, "<"},
	} {
		for op, want := range map[string]int64{
			"==": Bool(x.want == "="), "!=": Bool(x.want != "="), "<": Bool(x.want == "<"), ">": Bool(x.want == ">"), "<=": Bool(x.want != ">"), ">=": Bool(x.want != "<"),
		} {
			if got := Cmp(op, x.t, x.a, x.b); got != want {
				t.Errorf("%d: Cmp(%q, %+v, %d, %d) = %d, want %d", i, op, x.t, x.a, x.b, got, want)
			}
		}
	}
}

// TestSecretsDoNotMatter: what a type says beside its size and its sign changes nothing.
func TestSecretsDoNotMatter(t *testing.T) {
	for _, x := range types() {
		secret := x
		secret.Secret = true
		for _, op := range operators() {
			a, b := Fit(x, -77), Fit(x, 5)
			got, ok := Bin(op, secret, a, b)
			want, wanted := Bin(op, x, a, b)
			if got != want || ok != wanted || Cmp(op, secret, a, b) != Cmp(op, x, a, b) || Fit(secret, 1234) != Fit(x, 1234) {
				t.Errorf("%q of %+v isn't that of %+v", op, secret, x)
			}
		}
	}
}

// TestOddSizes: any size and any numbers may be passed (P0). Sizes below 0 are without bytes, and those above 8 have them all; 8 times some of them is a size again, modulo 2^64.
func TestOddSizes(t *testing.T) {
	for _, size := range []int{math.MinInt, -1<<61 + 1, -1<<61 + 8, -9, -8, -1, 0, 1, 2, 3, 4, 5, 6, 7, 8, 9, 16, 1 << 60, 1 << 61, 1<<61 + 1, math.MaxInt} {
		for _, signed := range []bool{false, true} {
			x := api.Type{Kind: api.Int, Size: size, Signed: signed}
			for _, a := range edges(64) {
				for _, b := range []int64{0, 1, -1, 8, 63, 64, math.MinInt64, math.MaxInt64} {
					odd(t, x, a, b)
				}
			}
		}
	}
	for kind := api.Void; kind <= api.Func+1; kind++ {
		odd(t, api.Type{Kind: kind}, 3, 5)
		odd(t, api.Type{Kind: kind, Size: 8}, 3, 5)
	}
}

// odd checks that each result is a number of the type that was passed.
func odd(t *testing.T, x api.Type, a, b int64) {
	t.Helper()
	whole := x
	whole.Size = min(max(x.Size, 0), 8)
	if got, want := Fit(x, a), Fit(whole, a); got != want || Fit(x, got) != got {
		t.Fatalf("Fit(%+v, %d) = %d, want %d", x, a, got, want)
	}
	for _, op := range operators() {
		got, ok := Bin(op, x, a, b)
		want, wanted := Bin(op, whole, a, b)
		if got != want || ok != wanted || Fit(x, got) != got || !ok && got != 0 {
			t.Fatalf("Bin(%q, %+v, %d, %d) = %d, %v, want %d, %v", op, x, a, b, got, ok, want, wanted)
		}
		if n := Cmp(op, x, a, b); n != 0 && n != 1 {
			t.Fatalf("Cmp(%q, %+v, %d, %d) = %d", op, x, a, b, n)
		}
	}
}
