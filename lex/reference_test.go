package lex

import (
	"regexp"
	"strconv"
	"strings"
	"testing"

	"merlon/api"
)

// A reference made of regular expressions tells what the chapter says of any source, by other means than Scan.
type reference struct {
	blanks, name, number, character *regexp.Regexp
	words                           map[string]bool
	signs                           []string
}

func newReference() *reference {
	r := &reference{
		blanks:    regexp.MustCompile(`^(?s:[ \t\n\r]|//[^\n]*|/\*.*?\*/)*`),
		name:      regexp.MustCompile(`^[A-Za-z_][A-Za-z_0-9]*`),
		number:    regexp.MustCompile(`^(0x[0-9a-fA-F]+|[0-9]+)(u?)(l?)`),
		character: regexp.MustCompile(`^'(?:[ -&(-\[\]-~]|\\[nt0\\'])'`),
		words:     map[string]bool{},
		signs:     signs(),
	}
	for _, w := range words() {
		r.words[w] = true
	}
	return r
}

func (r *reference) scan(s string) ([]Token, api.Fault) {
	if len(s) > 16384 {
		return nil, api.Fault{Kind: api.ErrSize, At: 16384}
	}
	var l []Token
	at := 0
	for {
		at += len(r.blanks.FindString(s[at:]))
		if at == len(s) {
			return append(l, Token{Kind: End, At: at}), api.Fault{}
		}
		x, ok := r.token(s[at:])
		if !ok {
			return nil, api.Fault{Kind: api.ErrLex, At: at}
		}
		x.At = at
		l = append(l, x)
		at += len(x.Text)
	}
}

func (r *reference) token(s string) (Token, bool) {
	if n := r.name.FindString(s); n != "" {
		if r.words[n] {
			return Token{Kind: Word, Text: n}, true
		}
		return Token{Kind: Name, Text: n}, len(n) <= 40
	}
	if m := r.number.FindStringSubmatch(s); m != nil {
		v, err := strconv.ParseUint(strings.TrimPrefix(m[1], "0x"), map[bool]int{false: 10, true: 16}[strings.HasPrefix(m[1], "0x")], 64)
		more := len(m[0]) < len(s) && (r.name.MatchString(s[len(m[0]):]) || strings.Contains("0123456789", s[len(m[0]):len(m[0])+1]))
		return Token{Kind: Number, Text: m[0], Value: v, Unsigned: m[2] != "", Long: m[3] != ""}, err == nil && !more
	}
	if c := r.character.FindString(s); c != "" {
		return Token{Kind: Number, Text: c, Value: constant(c)}, true
	}
	if strings.HasPrefix(s, "/*") {
		return Token{}, false
	}
	best := ""
	for _, x := range r.signs {
		if strings.HasPrefix(s, x) && len(x) > len(best) {
			best = x
		}
	}
	return Token{Kind: Sign, Text: best}, best != ""
}

// constant tells the byte of a character constant.
func constant(c string) uint64 {
	if c[1] != '\\' {
		return uint64(c[1])
	}
	return map[byte]uint64{'n': 10, 't': 9, '0': 0, '\\': 92, '\'': 39}[c[2]]
}

// check compares Scan with the reference (P1.1), and a source with its tokens (P1.2).
func (r *reference) check(t *testing.T, s string) {
	l, f := Scan(s)
	want, fault := r.scan(s)
	if f != fault || len(l) != len(want) {
		t.Fatalf("Scan(%q) = %v, %v, want %v, %v", s, l, f, want, fault)
	}
	for i := range l {
		if l[i] != want[i] {
			t.Fatalf("Scan(%q) has %+v, want %+v", s, l[i], want[i])
		}
	}
	r.lie(t, s, l)
}

// lie checks P1.2: the texts stand at their offsets, in order, and between them are nothing but blanks.
func (r *reference) lie(t *testing.T, s string, l []Token) {
	end := 0
	for i, x := range l {
		if x.At < end || x.At+len(x.Text) > len(s) || s[x.At:x.At+len(x.Text)] != x.Text || (x.Text == "") != (i == len(l)-1) {
			t.Fatalf("Scan(%q): token %d is %+v behind %d", s, i, x, end)
		}
		if gap := s[end:x.At]; r.blanks.FindString(gap) != gap {
			t.Fatalf("Scan(%q): %q ahead of token %d", s, gap, i)
		}
		end = x.At + len(x.Text)
	}
}

// every calls f with each text of up to n of the pieces.
func every(pieces []string, n int, f func(s string)) {
	var add func(s string, n int)
	add = func(s string, n int) {
		f(s)
		if n > 0 {
			for _, p := range pieces {
				add(s+p, n-1)
			}
		}
	}
	add("", n)
}

func TestAllPairsOfBytes(t *testing.T) {
	r := newReference()
	for a := range 256 {
		for b := range 256 {
			r.check(t, string([]byte{byte(a), byte(b)}))
		}
	}
}

func TestAllShortTexts(t *testing.T) {
	r := newReference()
	for _, alphabet := range []string{"/* \n", "+-=<>&", "0xulf1", "'\\n0a", "a_9 (."} {
		every(strings.Split(alphabet, ""), 6, func(s string) { r.check(t, s) })
	}
	every(signs(), 3, func(s string) { r.check(t, s) })
}

func TestMixedTexts(t *testing.T) {
	r := newReference()
	pieces := append(words(), signs()...)
	pieces = append(pieces, " ", "\n", "\t", "\r", "// c\n", "//", "/* c */", "/**/", "x", "Y_2", "_", "0", "7", "12u", "0x1Fl", "3ul", "0x", "'a'", "'\\n'", "'\\''", "'", "18446744073709551615", "18446744073709551616", strings.Repeat("n", 40), strings.Repeat("n", 41), "@", "\x00", "\xff", "é", "\\")
	// A rule in place of a random source, so that each run has the same texts.
	seed := uint32(1)
	next := func(n int) int {
		seed = seed*1664525 + 1013904223
		return int(seed>>8) % n
	}
	for range 20000 {
		var b strings.Builder
		for range next(12) {
			b.WriteString(pieces[next(len(pieces))])
			if next(2) == 0 {
				b.WriteByte(' ')
			}
		}
		r.check(t, b.String())
	}
}

func TestLongTexts(t *testing.T) {
	r := newReference()
	for _, p := range []string{"int x1=0x1Fu;// c\n", "a<<=2l/* d */'a''\\n'->a ", "{}", "/", "*", "/*", "'", "1", "n", "\x80"} {
		s := strings.Repeat(p, api.MaxSource/len(p)+1)
		for _, n := range []int{api.MaxSource - 1, api.MaxSource, api.MaxSource + 1} {
			if n <= len(s) {
				r.check(t, s[:n])
			}
		}
	}
}

func TestTextsLieInTheSource(t *testing.T) {
	r := newReference()
	for _, s := range []string{
		"", " ", "x", " x ", "int main() { return 1; }", "/* a */x/* b */y// c\nz // d", "a//\n+//\n1",
		"secret int k; int f(struct s *p) { while (p->n >>= 1u) { k ^= 'q' + '\\''; } }",
		"x\r\n\ty = 0xFFul /**/ ;//",
	} {
		l, f := Scan(s)
		if f.Kind != 0 || len(l) == 0 {
			t.Fatal(s, f)
		}
		r.lie(t, s, l)
	}
}
