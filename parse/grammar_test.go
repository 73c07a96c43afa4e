package parse

import (
	"sort"
	"strings"
	"testing"

	"merlon/api"
	"merlon/lex"
)

// chapter is the chapter's grammar as it is written there, but for quotes around the tokens that aren't names and numbers.
const chapter = `
unit: { struct | global | function }
struct: 'struct' name '{' { decl ';' } '}' ';'
global: decl [ '=' init ] ';'
init: choice | '{' [ init { ',' init } [ ',' ] ] '}'
function: spec stars name '(' [ 'void' | param { ',' param } ] ')' block
param: decl
spec: [ 'secret' | 'public' ] ( 'struct' name | 'void' | [ 'unsigned' | 'signed' ] ( 'char' | 'short' | 'int' | 'long' ) | 'unsigned' | 'signed' )
decl: spec stars name dims | spec stars '(' '*' name dims ')' types
stars: { '*' }
dims: { '[' number ']' }
types: '(' [ 'void' | spec stars { ',' spec stars } ] ')'
block: '{' { stmt } '}'
stmt: ';' | block | 'if' paren stmt [ 'else' stmt ] | 'while' paren stmt | 'do' stmt 'while' paren ';' | 'for' '(' [ simple ] ';' [ full ] ';' [ full ] ')' stmt | 'switch' paren '{' [ label ':' { label ':' | stmt } ] '}' | 'break' ';' | 'continue' ';' | 'return' [ full ] ';' | simple ';'
label: 'case' choice | 'default'
simple: decl [ '=' full ] | full
paren: '(' full ')'
full: choice [ assign full ]
assign: '=' | '+=' | '-=' | '*=' | '/=' | '%=' | '&=' | '|=' | '^=' | '<<=' | '>>='
choice: b1 [ '?' full ':' choice ]
b1: b2 { '||' b2 }
b2: b3 { '&&' b3 }
b3: b4 { '|' b4 }
b4: b5 { '^' b5 }
b5: b6 { '&' b6 }
b6: b7 { ( '==' | '!=' ) b7 }
b7: b8 { ( '<' | '>' | '<=' | '>=' ) b8 }
b8: b9 { ( '<<' | '>>' ) b9 }
b9: b10 { ( '+' | '-' ) b10 }
b10: unary { ( '*' | '/' | '%' ) unary }
unary: ( '-' | '~' | '!' | '*' | '&' | '++' | '--' ) unary | '(' spec stars ')' unary | 'sizeof' '(' spec stars ')' | primary { '[' full ']' | '.' name | '->' name | '++' | '--' | '(' [ full { ',' full } ] ')' }
primary: number | name | '(' full ')'
`

// A rule is one way to write a part: parts and tokens in a row. Parts have letters alone, tokens that are spelt have a quote ahead.
type rule struct {
	part string
	row  []string
}

// A grammar is the chapter's, without brackets and braces.
type grammar struct {
	rules []rule
	of    map[string][]int
	empty map[string]bool // the parts that may have no tokens
	words []string        // of the line that is being read
	more  int
}

func newGrammar() *grammar {
	g := &grammar{of: map[string][]int{}, empty: map[string]bool{}}
	for _, line := range strings.Split(strings.TrimSpace(chapter), "\n") {
		part, text, _ := strings.Cut(line, ": ")
		g.words = strings.Fields(text)
		g.ways(part)
	}
	for again := true; again; {
		again = false
		for _, r := range g.rules {
			if !g.empty[r.part] && g.allEmpty(r.row) {
				g.empty[r.part] = true
				again = true
			}
		}
	}
	return g
}

func (g *grammar) allEmpty(row []string) bool {
	for _, x := range row {
		if !g.empty[x] {
			return false
		}
	}
	return true
}

func (g *grammar) add(part string, row ...string) {
	g.of[part] = append(g.of[part], len(g.rules))
	g.rules = append(g.rules, rule{part, row})
}

// fresh names a part that the chapter doesn't name.
func (g *grammar) fresh() string {
	g.more++
	return "more" + strings.Repeat("x", g.more)
}

// ways reads rows with | between them, up to what closes them.
func (g *grammar) ways(part string) {
	for {
		g.add(part, g.row()...)
		if len(g.words) == 0 || g.words[0] != "|" {
			return
		}
		g.words = g.words[1:]
	}
}

func (g *grammar) row() []string {
	var row []string
	for len(g.words) > 0 && !strings.Contains("|)]}", g.words[0]) {
		w := g.words[0]
		g.words = g.words[1:]
		if !strings.Contains("([{", w) {
			row = append(row, w)
			continue
		}
		inner, part := g.fresh(), g.fresh()
		g.ways(inner)
		g.words = g.words[1:]
		switch w {
		case "(":
			part = inner
		case "[":
			g.add(part)
			g.add(part, inner)
		case "{":
			g.add(part)
			g.add(part, part, inner)
		}
		row = append(row, part)
	}
	return row
}

// A state is how far a rule has come, from which token on.
type state struct{ rule, dot, from int }

// A chart has, ahead of each token, all states that some unit leads to (Earley's way): it knows at each token whether any unit can go on with it, and looks at no other.
type chart struct {
	g    *grammar
	sets [][]state
}

func (g *grammar) chart() *chart {
	c := &chart{g: g}
	var first []state
	for _, r := range g.of["unit"] {
		first = append(first, state{rule: r})
	}
	c.push(first)
	return c
}

// push adds a set with all that follows from its states.
func (c *chart) push(set []state) {
	at := len(c.sets)
	c.sets = append(c.sets, nil)
	seen := map[state]bool{}
	add := func(s state) {
		if !seen[s] {
			seen[s] = true
			c.sets[at] = append(c.sets[at], s)
		}
	}
	for _, s := range set {
		add(s)
	}
	for i := 0; i < len(c.sets[at]); i++ {
		s := c.sets[at][i]
		r := c.g.rules[s.rule]
		if s.dot == len(r.row) {
			for _, o := range c.sets[s.from] {
				if row := c.g.rules[o.rule].row; o.dot < len(row) && row[o.dot] == r.part {
					add(state{o.rule, o.dot + 1, o.from})
				}
			}
			continue
		}
		next := r.row[s.dot]
		for _, n := range c.g.of[next] {
			add(state{n, 0, at})
		}
		if c.g.empty[next] {
			add(state{s.rule, s.dot + 1, s.from})
		}
	}
}

// follow goes on with a token; false: no unit can.
func (c *chart) follow(token string) bool {
	var set []state
	for _, s := range c.sets[len(c.sets)-1] {
		if row := c.g.rules[s.rule].row; s.dot < len(row) && row[s.dot] == token {
			set = append(set, state{s.rule, s.dot + 1, s.from})
		}
	}
	if len(set) == 0 {
		return false
	}
	c.push(set)
	return true
}

// back takes the last token away.
func (c *chart) back() { c.sets = c.sets[:len(c.sets)-1] }

// whole: whether the tokens are a unit.
func (c *chart) whole() bool {
	for _, s := range c.sets[len(c.sets)-1] {
		if r := c.g.rules[s.rule]; r.part == "unit" && s.from == 0 && s.dot == len(r.row) {
			return true
		}
	}
	return false
}

// next: the tokens that some unit goes on with.
func (c *chart) next() []string {
	seen := map[string]bool{}
	var l []string
	for _, s := range c.sets[len(c.sets)-1] {
		row := c.g.rules[s.rule].row
		if s.dot < len(row) && len(c.g.of[row[s.dot]]) == 0 && !seen[row[s.dot]] {
			seen[row[s.dot]] = true
			l = append(l, row[s.dot])
		}
	}
	sort.Strings(l)
	return l
}

// vocabulary: all tokens as the grammar names them.
func (g *grammar) vocabulary() []string {
	seen := map[string]bool{}
	var l []string
	for _, r := range g.rules {
		for _, x := range r.row {
			if len(g.of[x]) == 0 && !seen[x] {
				seen[x] = true
				l = append(l, x)
			}
		}
	}
	sort.Strings(l)
	return l
}

// spelt is a token's text.
func spelt(token string) string {
	switch token {
	case "name":
		return "x"
	case "number":
		return "1"
	}
	return strings.Trim(token, "'")
}

// A path is tokens in a row, with a chart that follows them.
type path struct {
	*chart
	text string
	jump bool // whether there was a default
}

// step goes on with a token; false: no unit can, or a second default makes it a matter of limits.
func (p *path) step(t *testing.T, token string) bool {
	t.Helper()
	text := p.text + " " + spelt(token)
	u, f := Parse(text)
	if !p.follow(token) {
		if f != (api.Fault{Kind: api.ErrParse, At: len(p.text) + 1}) || u != nil {
			t.Fatalf("Parse(%q): fault %d at %d, want 11 at %d", text, int(f.Kind), f.At, len(p.text)+1)
		}
		return false
	}
	if token == "'default'" && f.Kind == api.ErrJump && f.At == len(p.text)+1 && strings.Contains(p.text, "default") {
		p.back()
		return false
	}
	want := api.Fault{Kind: api.ErrParse, At: len(text)}
	if p.whole() {
		want = api.Fault{}
	}
	if f != want || (u != nil) != p.whole() {
		t.Fatalf("Parse(%q): fault %d at %d, want %d at %d", text, int(f.Kind), f.At, int(want.Kind), want.At)
	}
	p.text = text
	return true
}

// path follows tokens with blanks between them.
func (g *grammar) path(t *testing.T, texts string) *path {
	t.Helper()
	p := &path{chart: g.chart()}
	tokens, _ := lex.Scan(texts)
	for _, x := range tokens[:len(tokens)-1] {
		if !p.step(t, termOf(x)) {
			t.Fatalf("%q isn't followed at %q", texts, x.Text)
		}
	}
	return p
}

// termOf is a token as the grammar names it.
func termOf(x lex.Token) string {
	switch x.Kind {
	case lex.Name:
		return "name"
	case lex.Number:
		return "number"
	}
	return "'" + x.Text + "'"
}

// all goes on in all ways that have up to n more tokens.
func (p *path) all(t *testing.T, tokens []string, n int) int {
	if n == 0 {
		return 0
	}
	text, count := p.text, 0
	for _, x := range tokens {
		count++
		if p.step(t, x) {
			count += p.all(t, tokens, n-1)
			p.back()
			p.text = text
		}
	}
	return count
}

func TestGrammarHasAllTokens(t *testing.T) {
	if n := len(newGrammar().vocabulary()); n != 2+22+45 {
		t.Fatal(n, newGrammar().vocabulary())
	}
}

// TestNextToken tries all tokens behind beginnings of many kinds, with one token of any kind between.
func TestNextToken(t *testing.T) {
	g := newGrammar()
	for _, s := range []string{
		"", "int", "secret", "public unsigned", "struct", "struct s", "struct s {", "struct s { }", "struct s { int x", "int *", "int x", "int x [", "int x [ 1", "int x [ 1 ]", "int (", "int ( *", "int ( * x", "int ( * x )", "int ( * x ) (", "int ( * x ) ( void", "int ( * x ) ( )", "int ( * x ) ( int",
		"int x =", "int x = 1", "int x = {", "int x = { 1", "int x = { 1 ,", "int x = { 1 }", "int x ;", "int f ( void", "int f ( void * x", "int f ( int x ,", "int f ( )", "int f ( ) {", "int f ( ) { }", "int f ( ) { int", "int f ( ) { int x", "int f ( ) { int x =", "int f ( ) { int x = 1", "int f ( ) { x", "int f ( ) { x = x",
		"int f ( ) { if", "int f ( ) { if (", "int f ( ) { if ( x )", "int f ( ) { if ( x ) ;", "int f ( ) { if ( x ) ; else", "int f ( ) { while ( x )", "int f ( ) { do", "int f ( ) { do ;", "int f ( ) { do ; while ( x )", "int f ( ) { for", "int f ( ) { for (", "int f ( ) { for ( int x", "int f ( ) { for ( ;", "int f ( ) { for ( ; ;", "int f ( ) { for ( ; ; )",
		"int f ( ) { switch ( x )", "int f ( ) { switch ( x ) {", "int f ( ) { switch ( x ) { case", "int f ( ) { switch ( x ) { case 1", "int f ( ) { switch ( x ) { default", "int f ( ) { switch ( x ) { default :", "int f ( ) { switch ( x ) { default : ;", "int f ( ) { break", "int f ( ) { continue", "int f ( ) { return", "int f ( ) { return x",
		"int f ( ) { -", "int f ( ) { (", "int f ( ) { ( x", "int f ( ) { ( int", "int f ( ) { ( int )", "int f ( ) { ( int ) x", "int f ( ) { sizeof", "int f ( ) { sizeof ( int", "int f ( ) { sizeof ( int )", "int f ( ) { x (", "int f ( ) { x ( x", "int f ( ) { x ( x ,", "int f ( ) { x [ x", "int f ( ) { x .", "int f ( ) { x ->", "int f ( ) { x ++", "int f ( ) { x +", "int f ( ) { x ? x", "int f ( ) { x ? x :", "int f ( ) { x ? x : x",
	} {
		g.path(t, s).all(t, g.vocabulary(), 2)
	}
}

// TestShortContinuations tries longer ones, with fewer tokens.
func TestShortContinuations(t *testing.T) {
	g := newGrammar()
	for _, x := range []struct {
		begin, tokens string
		n             int
	}{
		{"", "int void struct name * ( ) { } [ number ] ; , =", 5},
		{"int f (", "int void name * ( ) , { }", 7},
		{"struct s {", "int struct name * ( ) ; } [ number ]", 7},
		{"int x =", "{ } , ; number - name", 8},
		{"int f ( ) {", "name ; { } if ( ) else int", 6},
		{"int f ( ) { switch ( x ) {", "case default : ; name ? }", 8},
		{"int f ( ) { for", "( ) ; int name = , }", 8},
		{"int f ( ) { do", "; name while ( ) { }", 8},
		{"int f ( ) {", "( ) int name * sizeof ;", 7},
		{"int f ( ) {", "name = ? : + - ;", 6},
		{"int f ( ) {", "name [ ] ( ) , . ++ ;", 6},
	} {
		var tokens []string
		for _, w := range strings.Fields(x.tokens) {
			if w != "name" && w != "number" {
				w = "'" + w + "'"
			}
			tokens = append(tokens, w)
		}
		if n := g.path(t, x.begin).all(t, tokens, x.n); n < 300 {
			t.Errorf("%q: only %d texts", x.begin, n)
		}
	}
}
