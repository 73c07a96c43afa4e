// Package lex is layer 1: see shared/doc/01-lex.md.
package lex

import (
	"strconv"
	"strings"

	"merlon/api"
)

// Kinds of tokens.
const (
	End = iota
	Name
	Word // a key word
	Number
	Sign
)

// A Token: its kind, its text, where it begins; of a number what it is, and its type's suffix.
type Token struct {
	Kind     int
	Text     string
	At       int
	Value    uint64
	Unsigned bool
	Long     bool
}

// Scan: a text's tokens, and one of kind End behind them.
func Scan(s string) ([]Token, api.Fault) {
	if len(s) > api.MaxSource {
		return nil, api.Fault{Kind: api.ErrSize, At: api.MaxSource}
	}
	var list []Token
	at := blanks(s)
	for at < len(s) {
		t, ok := first(s[at:])
		if !ok {
			return nil, api.Fault{Kind: api.ErrLex, At: at}
		}
		t.At = at
		list = append(list, t)
		at += len(t.Text)
		at += blanks(s[at:])
	}
	return append(list, Token{Kind: End, At: at}), api.Fault{}
}

// blanks: how many bytes of blanks s begins with.
func blanks(s string) int {
	n := 0
	for {
		k := blank(s[n:])
		if k == 0 {
			return n
		}
		n += k
	}
}

// blank: the length of one blank that s begins with; 0: it begins with none.
// A comment without an end is none, so that the fault is found where it begins.
func blank(s string) int {
	switch {
	case strings.HasPrefix(s, "//"):
		if n := strings.IndexByte(s, '\n'); n >= 0 {
			return n
		}
		return len(s)
	case strings.HasPrefix(s, "/*"):
		// The search starts behind the /*, whose * doesn't end the comment: /*/ is open.
		if n := strings.Index(s[2:], "*/"); n >= 0 {
			return 2 + n + 2
		}
		return 0
	case s != "" && (s[0] == ' ' || s[0] == '\t' || s[0] == '\n' || s[0] == '\r'):
		return 1
	}
	return 0
}

// first: the token that s, which isn't empty, begins with; false: none matches.
func first(s string) (Token, bool) {
	switch c := s[0]; {
	case isLetter(c):
		return name(s)
	case isDigit(c, 10):
		return number(s)
	case c == '\'':
		return character(s)
	case strings.HasPrefix(s, "/*"):
		// Only a comment without an end is left here: it must not be taken for a division.
		return Token{}, false
	}
	return sign(s)
}

func name(s string) (Token, bool) {
	n := 1
	for n < len(s) && isPart(s[n]) {
		n++
	}
	if n > api.MaxName {
		return Token{}, false
	}
	if isWord(s[:n]) {
		return Token{Kind: Word, Text: s[:n]}, true
	}
	return Token{Kind: Name, Text: s[:n]}, true
}

func number(s string) (Token, bool) {
	from, base := 0, 10
	if strings.HasPrefix(s, "0x") {
		from, base = 2, 16
	}
	n := from
	for n < len(s) && isDigit(s[n], base) {
		n++
	}
	// It fails beyond 64 bits, and for 0x without a digit.
	v, err := strconv.ParseUint(s[from:n], base, 64)
	if err != nil {
		return Token{}, false
	}
	t := Token{Kind: Number, Value: v}
	if n < len(s) && s[n] == 'u' {
		t.Unsigned = true
		n++
	}
	if n < len(s) && s[n] == 'l' {
		t.Long = true
		n++
	}
	if n < len(s) && isPart(s[n]) {
		return Token{}, false
	}
	t.Text = s[:n]
	return t, true
}

func character(s string) (Token, bool) {
	if len(s) >= 4 && s[1] == '\\' && s[3] == '\'' {
		v, ok := escaped(s[2])
		return Token{Kind: Number, Text: s[:4], Value: uint64(v)}, ok
	}
	if len(s) >= 3 && isPlain(s[1]) && s[2] == '\'' {
		return Token{Kind: Number, Text: s[:3], Value: uint64(s[1])}, true
	}
	return Token{}, false
}

func sign(s string) (Token, bool) {
	for n := min(3, len(s)); n > 0; n-- {
		if isSign(s[:n]) {
			return Token{Kind: Sign, Text: s[:n]}, true
		}
	}
	return Token{}, false
}

func isLetter(c byte) bool {
	return 'A' <= c && c <= 'Z' || 'a' <= c && c <= 'z' || c == '_'
}

func isDigit(c byte, base int) bool {
	if base == 16 && ('a' <= c && c <= 'f' || 'A' <= c && c <= 'F') {
		return true
	}
	return '0' <= c && c <= '9'
}

// isPart: may c stand in a name behind its first letter?
func isPart(c byte) bool { return isLetter(c) || isDigit(c, 10) }

// isPlain: may c stand for itself in a character constant?
func isPlain(c byte) bool { return 32 <= c && c <= 126 && c != '\'' && c != '\\' }

// escaped: the byte that \c stands for in a character constant; false: none.
func escaped(c byte) (byte, bool) {
	switch c {
	case 'n':
		return '\n', true
	case 't':
		return '\t', true
	case '0':
		return 0, true
	case '\\', '\'':
		return c, true
	}
	return 0, false
}

func isWord(s string) bool {
	switch s {
	case "break", "case", "char", "continue", "default", "do", "else", "for",
		"if", "int", "long", "public", "return", "secret", "short", "signed",
		"sizeof", "struct", "switch", "unsigned", "void", "while":
		return true
	}
	return false
}

func isSign(s string) bool {
	switch s {
	case "<<=", ">>=",
		"->", "++", "--", "<<", ">>", "<=", ">=", "==", "!=", "&&", "||",
		"+=", "-=", "*=", "/=", "%=", "&=", "|=", "^=",
		"+", "-", "*", "/", "%", "&", "|", "^", "~", "!", "<", ">", "=",
		"?", ":", ";", ",", ".", "(", ")", "[", "]", "{", "}":
		return true
	}
	return false
}
