package lex

import (
	"reflect"
	"strings"
	"testing"

	"merlon/api"
)

// tokens scans a source that must have no fault, and drops the End, which it checks.
func tokens(t *testing.T, s string) []Token {
	t.Helper()
	l, f := Scan(s)
	if f != (api.Fault{}) {
		t.Fatalf("Scan(%q): fault %v", s, f)
	}
	if len(l) == 0 || l[len(l)-1] != (Token{Kind: End, At: len(s)}) {
		t.Fatalf("Scan(%q): no End at %d in %v", s, len(s), l)
	}
	return l[:len(l)-1]
}

// same checks the tokens of a source but for its End.
func same(t *testing.T, s string, want ...Token) {
	t.Helper()
	got := tokens(t, s)
	if len(got) == 0 && len(want) == 0 {
		return
	}
	if !reflect.DeepEqual(got, want) {
		t.Errorf("Scan(%q) = %+v, want %+v", s, got, want)
	}
}

// texts checks the texts of a source's tokens.
func texts(t *testing.T, s string, want ...string) {
	t.Helper()
	got := []string{}
	for _, x := range tokens(t, s) {
		got = append(got, x.Text)
	}
	if strings.Join(got, "\n") != strings.Join(want, "\n") || len(got) != len(want) {
		t.Errorf("Scan(%q) has %q, want %q", s, got, want)
	}
}

// fails checks that a source has a fault, and nothing else.
func fails(t *testing.T, s string, kind api.Errno, at int) {
	t.Helper()
	l, f := Scan(s)
	if f != (api.Fault{Kind: kind, At: at}) || len(l) != 0 {
		if len(s) > 100 {
			s = s[:100] + ".."
		}
		t.Errorf("Scan(%q) = %v, %v, want %v at %d", s, l, f, int(kind), at)
	}
}

func words() []string {
	return strings.Fields("break case char continue default do else for if int long public return secret short signed sizeof struct switch unsigned void while")
}

func signs() []string {
	return strings.Fields("<<= >>= -> ++ -- << >> <= >= == != && || += -= *= /= %= &= |= ^= + - * / % & | ^ ~ ! < > = ? : ; , . ( ) [ ] { }")
}

func TestKinds(t *testing.T) {
	if End != 0 || Name != 1 || Word != 2 || Number != 3 || Sign != 4 {
		t.Fatal(End, Name, Word, Number, Sign)
	}
}

func TestExample(t *testing.T) {
	same(t, "a+=0x1Fu",
		Token{Kind: Name, Text: "a", At: 0},
		Token{Kind: Sign, Text: "+=", At: 1},
		Token{Kind: Number, Text: "0x1Fu", At: 3, Value: 31, Unsigned: true})
}

func TestOrdinarySource(t *testing.T) {
	same(t, "secret int k;\n/* c */ for(p->x1=-7l;;) // end",
		Token{Kind: Word, Text: "secret", At: 0},
		Token{Kind: Word, Text: "int", At: 7},
		Token{Kind: Name, Text: "k", At: 11},
		Token{Kind: Sign, Text: ";", At: 12},
		Token{Kind: Word, Text: "for", At: 22},
		Token{Kind: Sign, Text: "(", At: 25},
		Token{Kind: Name, Text: "p", At: 26},
		Token{Kind: Sign, Text: "->", At: 27},
		Token{Kind: Name, Text: "x1", At: 29},
		Token{Kind: Sign, Text: "=", At: 31},
		Token{Kind: Sign, Text: "-", At: 32},
		Token{Kind: Number, Text: "7l", At: 33, Value: 7, Long: true},
		Token{Kind: Sign, Text: ";", At: 35},
		Token{Kind: Sign, Text: ";", At: 36},
		Token{Kind: Sign, Text: ")", At: 37})
}

func TestNoTokens(t *testing.T) {
	for _, s := range []string{"", " ", "\t\n\r ", "//", "// no end", "//\n", "/**/", "/* a */ // b\n/***/"} {
		same(t, s)
	}
}

func TestWords(t *testing.T) {
	for _, w := range words() {
		same(t, w, Token{Kind: Word, Text: w})
		for _, n := range []string{w + "x", w + "0", w + "_", "_" + w, w[:len(w)-1] + "Z", strings.ToUpper(w), strings.ToUpper(w[:1]) + w[1:]} {
			same(t, n, Token{Kind: Name, Text: n})
		}
	}
	for _, n := range []string{"main", "out", "auto", "const", "static", "goto", "float", "typedef", "NULL", "i", "whil", "dou"} {
		same(t, n, Token{Kind: Name, Text: n})
	}
}

func TestNames(t *testing.T) {
	for c := range 256 {
		s := string([]byte{byte(c)})
		letter := strings.Contains("ABCDEFGHIJKLMNOPQRSTUVWXYZabcdefghijklmnopqrstuvwxyz_", s)
		part := letter || strings.Contains("0123456789", s)
		if letter {
			same(t, s, Token{Kind: Name, Text: s})
		} else if l, _ := Scan(s); len(l) > 0 && l[0].Kind == Name {
			t.Errorf("%q begins a name", s)
		}
		l, f := Scan("a" + s)
		if got := f.Kind == 0 && l[0].Text == "a"+s; got != part {
			t.Errorf("%q in a name: %v", s, got)
		}
	}
	texts(t, "a b1 _ __2 Z9_z", "a", "b1", "_", "__2", "Z9_z")
}

func TestLongNames(t *testing.T) {
	long := strings.Repeat("aB_9", 10)
	same(t, long, Token{Kind: Name, Text: long})
	same(t, "-"+long+";", Token{Kind: Sign, Text: "-"}, Token{Kind: Name, Text: long, At: 1}, Token{Kind: Sign, Text: ";", At: 41})
	for _, more := range []string{"a", "_", "0", strings.Repeat("x", 1000)} {
		fails(t, long+more, api.ErrLex, 0)
		fails(t, "int "+long+more+" @", api.ErrLex, 4)
	}
	// Numbers and comments have no such limit.
	zeros := strings.Repeat("0", 100)
	same(t, zeros, Token{Kind: Number, Text: zeros})
	same(t, "/*"+zeros+"*/")
}

func TestNumbers(t *testing.T) {
	const most = 1<<64 - 1
	for _, x := range []Token{
		{Text: "0"}, {Text: "7", Value: 7}, {Text: "00", Value: 0}, {Text: "010", Value: 10}, {Text: "1234567890", Value: 1234567890},
		{Text: "9223372036854775808", Value: 1 << 63}, {Text: "18446744073709551615", Value: most}, {Text: "00018446744073709551615ul", Value: most, Unsigned: true, Long: true},
		{Text: "0x0"}, {Text: "0x1f", Value: 31}, {Text: "0xABCDEF", Value: 0xabcdef}, {Text: "0xabcdef", Value: 0xabcdef}, {Text: "0x0123456789", Value: 0x123456789},
		{Text: "0xffffffffffffffff", Value: most}, {Text: "0x0000FFFFFFFFFFFFFFFFl", Value: most, Long: true},
		{Text: "5u", Value: 5, Unsigned: true}, {Text: "5l", Value: 5, Long: true}, {Text: "5ul", Value: 5, Unsigned: true, Long: true},
		{Text: "0u", Unsigned: true}, {Text: "0xful", Value: 15, Unsigned: true, Long: true},
	} {
		x.Kind = Number
		same(t, x.Text, x)
		same(t, x.Text+";", x, Token{Kind: Sign, Text: ";", At: len(x.Text)})
		same(t, x.Text+"'a'", x, Token{Kind: Number, Text: "'a'", At: len(x.Text), Value: 'a'})
		x.At = 1
		same(t, "-"+x.Text+" ", Token{Kind: Sign, Text: "-"}, x)
	}
	texts(t, "1.5", "1", ".", "5")
	texts(t, "1+-5", "1", "+", "-", "5")
}

func TestNoNumbers(t *testing.T) {
	for _, s := range []string{
		"12ab", "1_", "0x", "0xg", "0xu", "0x_", "0x;", "0X1", "0b1", "1e5", "0x1g", "0x1_", "1U", "1L", "1lu", "1uu", "1ll", "1ull", "1ulu", "1u0", "1l2", "1ul3", "1uL", "1ula", "0x1lf", "0x0x0",
		"18446744073709551616", "18446744073709551616ul", "99999999999999999999", "100000000000000000000000000000000", "0x10000000000000000", "0xfffffffffffffffff", "0x10000000000000000ul",
	} {
		fails(t, s, api.ErrLex, 0)
		fails(t, " x="+s, api.ErrLex, 3)
	}
}

func TestCharacters(t *testing.T) {
	escapes := map[int]uint64{'n': 10, 't': 9, '0': 0, '\\': 92, '\'': 39}
	for c := range 256 {
		b := string([]byte{byte(c)})
		if s := "'" + b + "'"; c >= 32 && c <= 126 && c != '\'' && c != '\\' {
			same(t, s, Token{Kind: Number, Text: s, Value: uint64(c)})
		} else {
			fails(t, s, api.ErrLex, 0)
		}
		s := "'\\" + b + "'"
		if v, ok := escapes[c]; ok {
			same(t, s, Token{Kind: Number, Text: s, Value: v})
		} else {
			fails(t, s, api.ErrLex, 0)
		}
	}
	texts(t, "'a''\\n'b'\"'1", "'a'", "'\\n'", "b", "'\"'", "1")
	texts(t, "'/'/'*'", "'/'", "/", "'*'")
	for _, s := range []string{"'", "''", "'''", "'a", "'ab'", "'\\", "'\\n", "'\\nn'", "'\\'", "'\\x41'", "'\\00'", "' ", "'a\n'", "\""} {
		fails(t, s, api.ErrLex, 0)
		fails(t, "f("+s, api.ErrLex, 2)
	}
}

func TestSigns(t *testing.T) {
	for _, s := range signs() {
		same(t, s, Token{Kind: Sign, Text: s})
		same(t, "a"+s+"1", Token{Kind: Name, Text: "a"}, Token{Kind: Sign, Text: s, At: 1}, Token{Kind: Number, Text: "1", At: 1 + len(s), Value: 1})
		texts(t, s+" "+s, s, s)
	}
	if len(signs()) != 45 || len(words()) != 22 {
		t.Fatal(len(signs()), len(words()))
	}
}

func TestLongestSign(t *testing.T) {
	texts(t, "<<=", "<<=")
	texts(t, "<<==", "<<=", "=")
	texts(t, "<<<=", "<<", "<=")
	texts(t, ">>>=", ">>", ">=")
	texts(t, ">>>>=", ">>", ">>=")
	texts(t, "<<<", "<<", "<")
	texts(t, "a+++b", "a", "++", "+", "b")
	texts(t, "a---b", "a", "--", "-", "b")
	texts(t, "-->", "--", ">")
	texts(t, "->>", "->", ">")
	texts(t, "===", "==", "=")
	texts(t, "=!==", "=", "!=", "=")
	texts(t, "&&&", "&&", "&")
	texts(t, "|||=", "||", "|=")
	texts(t, "&&=", "&&", "=")
	texts(t, "...", ".", ".", ".")
	texts(t, "+ +", "+", "+")
	texts(t, "< <=", "<", "<=")
	texts(t, "~=", "~", "=")
	texts(t, "!~", "!", "~")
	texts(t, "*/", "*", "/")
	texts(t, "*=/=", "*=", "/=")
}

func TestComments(t *testing.T) {
	texts(t, "a//b\nc", "a", "c")
	texts(t, "a//b\rc\n", "a")
	texts(t, "a// /* b\nc */", "a", "c", "*", "/")
	texts(t, "a/*b*/c", "a", "c")
	texts(t, "a/* // */b", "a", "b")
	texts(t, "a/*/*/b", "a", "b")
	texts(t, "a/***/b", "a", "b")
	texts(t, "/* /* */ */", "*", "/")
	texts(t, "1/**/2", "1", "2")
	texts(t, "+/**/+", "+", "+")
	texts(t, "a/ *b", "a", "/", "*", "b")
	texts(t, "//\\\nx", "x")
	texts(t, "/*\x00\xff@\"'\n*/x//\x00\xff@\"'", "x")
	texts(t, "a /=/**/b", "a", "/=", "b")
}

func TestOpenComments(t *testing.T) {
	for _, s := range []string{"/*", "/*/", "/**", "/* x", "/* x *", "/* x * /", "/*\n//*", "/* @"} {
		fails(t, s, api.ErrLex, 0)
		fails(t, "a\n "+s, api.ErrLex, 3)
		fails(t, "/**/"+s, api.ErrLex, 4)
	}
	fails(t, "a /* b */ /* c", api.ErrLex, 10)
	fails(t, "a//\n/*", api.ErrLex, 4)
}

func TestBytes(t *testing.T) {
	begins := " \t\n\r_+-*/%&|^~!<>=?:;,.()[]{}"
	for c := range 256 {
		b := byte(c)
		s := string([]byte{b})
		if '0' <= b && b <= '9' || 'a' <= b && b <= 'z' || 'A' <= b && b <= 'Z' || strings.Contains(begins, s) {
			tokens(t, s)
			tokens(t, "; "+s)
			continue
		}
		fails(t, s, api.ErrLex, 0)
		fails(t, "; "+s+" ;", api.ErrLex, 2)
		fails(t, "x"+s, api.ErrLex, 1)
	}
	for _, s := range []string{"é", "世", "\u00a0", "\ufeff"} {
		fails(t, "i;"+s, api.ErrLex, 2)
	}
}

func TestFirstFault(t *testing.T) {
	fails(t, "a @ # /*", api.ErrLex, 2)
	fails(t, "/* @ */ 1a @", api.ErrLex, 8)
	fails(t, "// @\n"+strings.Repeat("x", 41)+" 1a", api.ErrLex, 5)
	fails(t, "0x /*", api.ErrLex, 0)
}

func TestSourceLimit(t *testing.T) {
	const n = api.MaxSource
	same(t, strings.Repeat(" ", n))
	same(t, "/*"+strings.Repeat("x", n-4)+"*/")
	same(t, strings.Repeat(" ", n-1)+"x", Token{Kind: Name, Text: "x", At: n - 1})
	if l := tokens(t, strings.Repeat(";", n)); len(l) != n {
		t.Error(len(l))
	}
	fails(t, strings.Repeat("@", n), api.ErrLex, 0)
	fails(t, strings.Repeat(" ", n-1)+"@", api.ErrLex, n-1)
	for _, c := range []string{" ", "@", ";", "x", "/", "\n"} {
		fails(t, strings.Repeat(c, n+1), api.ErrSize, n)
		fails(t, strings.Repeat(c, 3*n), api.ErrSize, n)
	}
	fails(t, "/*"+strings.Repeat(" ", n-1), api.ErrSize, n)
}

func TestAnswersAreTheirOwn(t *testing.T) {
	l, _ := Scan("a b")
	m, _ := Scan("a b")
	l[0] = Token{}
	if m[0] != (Token{Kind: Name, Text: "a"}) {
		t.Fatal(m)
	}
	same(t, "a b", Token{Kind: Name, Text: "a"}, Token{Kind: Name, Text: "b", At: 2})
}
