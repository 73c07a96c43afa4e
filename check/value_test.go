package check

import (
	"testing"

	"merlon/api"
	"merlon/ctype"
)

func TestValue(t *testing.T) {
	for text, want := range map[string]int64{
		"5": 5, "18446744073709551615": -1, "'a'": 97, "sizeof(long)": 8, "-5": -5, "-5u": 4294967291, "~5": -6, "~5u": 4294967290, "!5": 0, "!0": 1, "!!7": 1, "!!0": 0,
		"(char) 200": -56, "(unsigned char) -1": 255, "(secret short) 65537": 1, "(long) 4294967295u": 4294967295, "(int) 4294967295u": -1,
		"1 + 2": 3, "2147483647 + 1": -2147483648, "2147483647 + 1u": 2147483648, "1 - 2u": 4294967295, "1 - 2ul": -1, "3 * -4": -12, "7 / 2": 3, "-7 / 2": -3, "-7 / 2u": 2147483644, "7 % 4": 3, "-7 % 4": -3, "6 & 3": 2, "6 | 3": 7, "6 ^ 3": 5, "1 << 33": 2, "1l << 33": 8589934592, "-8 >> 1": -4, "-8 >> 33": -4, "-8u >> 1": 2147483644, "1 << -1": -2147483648,
		"1 == 1": 1, "1 != 1": 0, "1 < 2": 1, "-1 < 1u": 0, "-1 < 1": 1, "2 > 1": 1, "1 <= 1": 1, "1 >= 2": 0, "-1l < 4294967295u": 1, "(1 < 2) + (3 < 4)": 2, "-2147483647 - 1 == 1 << 31": 1, "(-2147483647 - 1) / -1": -2147483648,
	} {
		_, m := mainOf(t, text+";")
		if got, known := Value(m.Body.Kids[0].E); got != want || !known {
			t.Errorf("%s: %d, %v, want %d", text, got, known, want)
		}
	}
	for _, text := range []string{"x", "k", "1 + x", "x + 1", "x == x", "(int) x", "-x", "!x", "~x", "1 / 0", "1 % 0", "1 + 1 / 0", "!(1 / 0)", "(char) (1 / 0)", "(-9223372036854775807 - 1) / -1", "(-9223372036854775807 - 1) % -1", "1 && 1", "0 || 1", "!(1 && 0)", "1 ? 2 : 3", "f(1)", "p", "f", "0 == p", "!f", "t", "p - p", "p + 1", "t[0]", "x = 1", "x += 1", "x++", "out(1)", "z = w", "&x", "1 == (1 / 0)", "(1 / 0) == 1"} {
		_, m := mainOf(t, text+";")
		if got, known := Value(m.Body.Kids[0].E); got != 0 || known {
			t.Errorf("%s: %d, %v, want none", text, got, known)
		}
	}
}

// Nodes that were put together by hand: a Const has its number whatever its type is, and what isn't whole has none.
func TestValueOfOtherNodes(t *testing.T) {
	char := ctype.IntOf(1, true)
	for _, n := range []*Node{{Op: Const, Num: 1000, Type: char}, {Op: Const, Num: 1000}, {Op: Const, Num: 1000, Type: ctype.PtrTo(char), Hid: true}} {
		if got, known := Value(n); got != 1000 || !known {
			t.Errorf("%+v: %d, %v", n, got, known)
		}
	}
	one := &Node{Op: Const, Num: 1, Type: char}
	loop := &Node{Op: Bin, Text: "+", Type: char}
	loop.Kids = []*Node{loop, loop}
	late := &Node{Op: Bin, Text: "+", Type: char}
	late.Kids = []*Node{one, late}
	deep := one
	for range 100 {
		deep = &Node{Op: Bin, Text: "+", Type: char, Kids: []*Node{deep, deep}}
	}
	for i, n := range []*Node{nil, {}, {Op: NullValue}, {Op: Conv}, {Op: Truth, Text: "!"}, {Op: Bin, Text: "+"}, {Op: Cmp, Text: "=="}, {Op: Bin, Text: "+", Kids: []*Node{one}}, {Op: Bin, Text: "+", Type: char, Kids: []*Node{one, nil}}, {Op: Cmp, Text: "==", Kids: []*Node{nil, one}}, {Op: Conv, Kids: []*Node{nil}}, {Op: Bin, Text: "&&", Type: char, Kids: []*Node{one, one}}, {Op: Bin, Text: "+", Kids: []*Node{one, one, one}}, {Op: And, Kids: []*Node{one, one}}, {Op: Load, Kids: []*Node{one}}, {Op: -1, Kids: []*Node{one}}, loop, late, deep} {
		if got, known := Value(n); got != 0 || known {
			t.Errorf("node %d: %d, %v, want none", i, got, known)
		}
	}
	if got, known := Value(&Node{Op: Conv, Type: api.Type{Kind: api.Int, Size: 1}, Kids: []*Node{{Op: Const, Num: 300}}}); got != 44 || !known {
		t.Errorf("%d, %v", got, known)
	}
}
