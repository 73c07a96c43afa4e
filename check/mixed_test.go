package check

import (
	"strings"
	"testing"

	"merlon/api"
)

// A mixer makes the tests' numbers: always the same ones.
type mixer uint64

func (m *mixer) below(n int) int {
	*m = *m*6364136223846793005 + 1442695040888963407
	return int(uint64(*m) >> 33 % uint64(n))
}

func (m *mixer) one(of ...string) string { return of[m.below(len(of))] }

// A guess is what the chapter says of an expression: its type as a text, or its first fault.
type guess struct {
	sort   string
	place  bool
	hidden bool
	zero   bool // the number 0
	name   bool // of a function, or & of it
	fault  api.Fault
	at     int
}

func (g guess) bad() bool { return g.fault.Kind != api.OK }

func (g guess) isInt() bool {
	return g.sort != "void" && !strings.HasPrefix(g.sort, "struct") && !strings.ContainsAny(g.sort, "*[(")
}

func (g guess) isPtr() bool { return strings.HasSuffix(g.sort, "*") }

func (g guess) isArray() bool { return strings.HasSuffix(g.sort, "]") }

func (g guess) isStruct() bool {
	return strings.HasPrefix(g.sort, "struct") && !strings.ContainsAny(g.sort, "*[(")
}

func (g guess) secret() bool { return g.hidden || g.isInt() && strings.HasPrefix(g.sort, "secret ") }

// behind is what a pointer points to.
func (g guess) behind() string { return strings.TrimSuffix(g.sort, "*") }

// sized: whether a type has a size.
func sized(sort string) bool { return sort != "void" && !strings.HasSuffix(sort, ")") }

// secretIf puts secret ahead of an integer type.
func secretIf(secret bool, sort string) string {
	if secret {
		return "secret " + strings.TrimPrefix(sort, "secret ")
	}
	return strings.TrimPrefix(sort, "secret ")
}

// value is the value of an expression, where one is required.
func (g guess) value() guess {
	if !g.place || g.bad() {
		return g
	}
	g.place = false
	switch {
	case g.isArray():
		g.sort = g.sort[:strings.LastIndex(g.sort, "[")] + "*"
	case g.isInt():
		g.sort = secretIf(g.secret(), g.sort)
		g.hidden = false
	}
	return g
}

// rank is an integer type's place in the order of common types, of those of at least 4 bytes.
func rank(sort string) int {
	for i, s := range []string{"int", "unsigned int", "long", "unsigned long"} {
		if strings.TrimPrefix(sort, "secret ") == s {
			return i
		}
	}
	return 0
}

func common(a, b string) string {
	names := []string{"int", "unsigned int", "long", "unsigned long"}
	return secretIf(strings.HasPrefix(a, "secret ") || strings.HasPrefix(b, "secret "), names[max(rank(a), rank(b))])
}

// A guesser makes up expressions as it writes them, and says what they are.
type guesser struct {
	mixer
	b strings.Builder
}

func (m *guesser) put(s string) int {
	at := m.b.Len()
	m.b.WriteString(s)
	return at
}

func faulty(kind api.Errno, at int) guess { return guess{fault: api.Fault{Kind: kind, At: at}} }

// part is an expression in parentheses.
func (m *guesser) part(n int) guess {
	m.put("(")
	g := m.expr(n - 1)
	m.put(")")
	return g
}

func (m *guesser) expr(n int) guess {
	if n <= 0 {
		return m.leaf()
	}
	switch m.below(16) {
	case 0, 1:
		return m.star(n)
	case 2:
		return m.and(n)
	case 3:
		return m.sign(n)
	case 4:
		return m.stepped(n)
	case 5:
		return m.casted(n)
	case 6, 7:
		return m.binary(n)
	case 8:
		return m.logical(n)
	case 9:
		return m.choice(n)
	case 10, 11:
		return m.assigned(n)
	case 12:
		return m.called(n)
	case 13:
		return m.indexed(n)
	case 14:
		return m.field(n)
	}
	return m.leaf()
}

func (m *guesser) leaf() guess {
	if m.below(6) == 0 {
		text := m.one("0", "1", "7u", "9l", "0ul", "'a'")
		sort := "int"
		switch {
		case strings.HasSuffix(text, "ul"):
			sort = "unsigned long"
		case strings.HasSuffix(text, "u"):
			sort = "unsigned int"
		case strings.HasSuffix(text, "l"):
			sort = "long"
		}
		return guess{sort: sort, zero: text[0] == '0', at: m.put(text)}
	}
	names := []string{"k", "secret int", "kl", "secret long", "kc", "secret char", "c", "char", "uc", "unsigned char", "x", "int", "u", "unsigned int", "l", "long", "ul", "unsigned long", "p", "int*", "kp", "secret int*", "v", "void*", "pp", "int**",
		"t", "int[4]", "kt", "secret int[4]", "tt", "int[3][2]", "pt", "int*[4]", "z", "struct s", "o", "struct r", "zp", "struct s*", "zs", "struct s[4]", "b1", "struct big", "b2", "struct big", "w", "struct s", "e1", "struct fit", "fp", "int(int)*", "ft", "int(int)*[4]", "f", "int(int)*", "nothing", "void()*", "lost", ""}
	i := 2 * m.below(len(names)/2)
	g := guess{sort: names[i+1], at: m.put(names[i])}
	g.name = names[i] == "f" || names[i] == "nothing"
	g.place = !g.name
	if g.sort == "" {
		return faulty(api.ErrName, g.at)
	}
	return g
}

// target is what a pointer points to.
func target(g guess, at int) guess {
	if g.bad() {
		return g
	}
	if !g.isPtr() || !sized(g.behind()) {
		return faulty(api.ErrType, at)
	}
	return guess{sort: g.behind(), place: true, hidden: g.hidden, at: at}
}

func (m *guesser) star(n int) guess {
	at := m.put("*")
	return target(m.part(n).value(), at)
}

func (m *guesser) and(n int) guess {
	at := m.put("&")
	g := m.part(n)
	switch {
	case g.bad():
		return g
	case g.name:
		g.at = at
		return g
	case !g.place:
		return faulty(api.ErrPlace, g.at)
	}
	return guess{sort: g.sort + "*", hidden: g.hidden, at: at}
}

func (m *guesser) sign(n int) guess {
	op := m.one("-", "~", "!")
	at := m.put(op)
	g := m.part(n).value()
	switch {
	case g.bad():
		return g
	case op == "!" && (g.isInt() || g.isPtr()):
		return guess{sort: secretIf(g.secret(), "int"), at: at}
	case op == "!" || !g.isInt():
		return faulty(api.ErrType, g.at)
	}
	return guess{sort: common(g.sort, g.sort), at: at}
}

func (m *guesser) stepped(n int) guess {
	op := m.one("++", "--")
	post := m.below(2) == 0
	at := 0
	if !post {
		at = m.put(op)
	}
	g := m.part(n)
	if post {
		at = m.put(op)
	}
	switch {
	case g.bad():
		return g
	case !g.place:
		return faulty(api.ErrPlace, g.at)
	case !g.isInt() && !(g.isPtr() && sized(g.behind())):
		return faulty(api.ErrType, at)
	}
	return modified(g, at)
}

// modified is the result of a change of g, if it may be changed.
func modified(g guess, at int) guess {
	if g.hidden && !(g.isInt() && strings.HasPrefix(g.sort, "secret ")) {
		return faulty(api.ErrFlow, at)
	}
	return guess{sort: g.sort, at: at}
}

func (m *guesser) casted(n int) guess {
	sort := m.one("int", "char", "unsigned long", "secret int", "secret unsigned char", "int *", "void", "struct s", "struct lost", "secret void *")
	at := m.put("(" + sort + ")")
	g := m.part(n).value()
	switch {
	case sort == "struct lost":
		return faulty(api.ErrName, at+1)
	case sort == "secret void *":
		return faulty(api.ErrType, at+1)
	case !(guess{sort: sort}).isInt():
		return faulty(api.ErrType, at)
	case g.bad():
		return g
	case !g.isInt():
		return faulty(api.ErrType, g.at)
	}
	return guess{sort: secretIf(g.secret() || strings.HasPrefix(sort, "secret "), sort), at: at}
}

func (m *guesser) binary(n int) guess {
	a := m.part(n).value()
	op := m.one("+", "-", "+", "-", "*", "%", "&", "^", "<<", ">>", "==", "!=", "<", ">=")
	at := m.put(op)
	b := m.part(n).value()
	switch {
	case a.bad():
		return a
	case b.bad():
		return b
	}
	return joined(op, at, a, b)
}

func joined(op string, at int, a, b guess) guess {
	compares := strings.ContainsAny(op, "=!") || op == "<"
	secret := a.secret() || b.secret()
	g := guess{at: at}
	switch {
	case a.isInt() && b.isInt() && compares:
		g.sort = secretIf(secret, "int")
	case a.isInt() && b.isInt() && len(op) == 2:
		g.sort = secretIf(secret, common(a.sort, a.sort))
	case a.isInt() && b.isInt():
		g.sort = common(a.sort, b.sort)
	case op == "+" && a.isInt() && b.isPtr() && sized(b.behind()):
		g.sort, g.hidden = b.sort, secret
	case (op == "+" || op == "-") && a.isPtr() && b.isInt() && sized(a.behind()):
		g.sort, g.hidden = a.sort, secret
	case op == "-" && a.isPtr() && a.sort == b.sort && sized(a.behind()):
		g.sort = secretIf(secret, "long")
	case compares && a.isPtr() && a.sort == b.sort && !strings.HasSuffix(a.sort, ")*"):
		g.sort = secretIf(secret, "int")
	case (op == "==" || op == "!=") && (a.isPtr() && b.zero || a.zero && b.isPtr()):
		g.sort = secretIf(secret, "int")
	default:
		return faulty(api.ErrType, at)
	}
	return g
}

// tested is a condition.
func tested(g guess) guess {
	if !g.bad() && !g.isInt() && !g.isPtr() {
		return faulty(api.ErrType, g.at)
	}
	return g
}

func (m *guesser) logical(n int) guess {
	a := tested(m.part(n).value())
	at := m.put(m.one("&&", "||"))
	b := tested(m.part(n).value())
	switch {
	case a.bad():
		return a
	case b.bad():
		return b
	}
	return guess{sort: secretIf(a.secret() || b.secret(), "int"), at: at}
}

func (m *guesser) choice(n int) guess {
	a := tested(m.part(n).value())
	at := m.put("?")
	b := m.part(n).value()
	m.put(":")
	c := m.part(n).value()
	for _, g := range []guess{a, b, c} {
		if g.bad() {
			return g
		}
	}
	secret := a.secret() || b.secret() || c.secret()
	switch {
	case b.isInt() && c.isInt():
		return guess{sort: secretIf(secret, common(b.sort, c.sort)), at: at}
	case b.isPtr() && (c.zero || c.sort == b.sort):
		return guess{sort: b.sort, hidden: secret, at: at}
	case c.isPtr() && b.zero:
		return guess{sort: c.sort, hidden: secret, at: at}
	}
	return faulty(api.ErrType, at)
}

// given is whether a value may be given to what has that type.
func given(sort string, g guess, at int) api.Fault {
	to := guess{sort: sort}
	switch {
	case to.isInt() && g.isInt() && g.secret() && !to.secret(), to.isPtr() && g.sort == sort && g.hidden:
		return api.Fault{Kind: api.ErrFlow, At: at}
	case to.isInt() && g.isInt(), to.isPtr() && (g.sort == sort || g.zero):
		return api.Fault{}
	}
	return api.Fault{Kind: api.ErrType, At: at}
}

func (m *guesser) assigned(n int) guess {
	a := m.part(n)
	op := m.one("", "", "", "+", "-", "*", "<<")
	at := m.put(op + "=")
	b := m.part(n)
	v := b.value()
	switch {
	case a.bad():
		return a
	case !a.place || a.isArray():
		return faulty(api.ErrPlace, a.at)
	case b.bad():
		return b
	case op != "":
		return assignedWith(op, at, a, v)
	case a.isStruct():
		return copied(at, a, b)
	}
	if f := given(a.sort, v, at); f.Kind != api.OK {
		return guess{fault: f}
	}
	return modified(a, at)
}

func copied(at int, a, b guess) guess {
	switch {
	case !b.place || a.sort != b.sort:
		return faulty(api.ErrType, at)
	case a.hidden || b.hidden:
		return faulty(api.ErrFlow, at)
	case a.sort == "struct big":
		return faulty(api.ErrSize, at)
	}
	return guess{sort: "void", at: at}
}

func assignedWith(op string, at int, a, v guess) guess {
	moves := (op == "+" || op == "-") && a.isPtr() && sized(a.behind())
	switch {
	case !v.isInt() || !a.isInt() && !moves:
		return faulty(api.ErrType, at)
	case v.secret() && !strings.HasPrefix(a.sort, "secret "), v.secret() && a.isPtr():
		return faulty(api.ErrFlow, at)
	}
	return modified(a, at)
}

func (m *guesser) called(n int) guess {
	var f guess
	params := []string{"int"}
	builtin := false
	switch m.below(5) {
	case 0:
		builtin = true
		f = guess{sort: "void(int)*", at: m.put("out")}
	case 1:
		f = guess{sort: "int(int,int*)*", at: m.put("g")}
		params = []string{"int", "int*"}
	case 2:
		f = guess{sort: "secret int(secret int)*", at: m.put("sf")}
		params = []string{"secret int"}
	default:
		f = m.part(n).value()
	}
	at := m.put("(")
	var args []guess
	for i := range m.below(6) % (len(params) + 2) {
		if i > 0 {
			m.put(",")
		}
		args = append(args, m.part(n).value())
	}
	m.put(")")
	i := strings.LastIndex(f.sort, "(")
	switch {
	case f.bad():
		return f
	case !strings.HasSuffix(f.sort, ")*"):
		return faulty(api.ErrType, at)
	case f.hidden:
		return faulty(api.ErrFlow, at)
	case f.sort[i:] == "()*":
		params = nil
	}
	if len(args) != len(params) {
		return faulty(api.ErrCall, at)
	}
	for i, a := range args {
		if a.bad() {
			return a
		}
		// What is written must be an integer, of any type.
		if fault := given(params[i], a, a.at); fault.Kind != api.OK && !(builtin && a.isInt() && !a.secret()) {
			return guess{fault: fault}
		}
	}
	return guess{sort: f.sort[:i], at: at}
}

func (m *guesser) indexed(n int) guess {
	a := m.part(n).value()
	at := m.put("[")
	b := m.part(n).value()
	m.put("]")
	switch {
	case a.bad():
		return a
	case b.bad():
		return b
	}
	return target(joined("+", at, a, b), at)
}

func (m *guesser) field(n int) guess {
	op := m.one(".", "->")
	g := m.part(n)
	at := m.put(op)
	fields := []string{"a", "int", "b", "secret int", "q", "int*", "n", "int[3]", "next", "struct s*", "lost", ""}
	i := 2 * m.below(len(fields)/2)
	m.put(fields[i])
	switch {
	case g.bad():
		return g
	case op == "->":
		g = target(g.value(), at)
	case !g.place:
		return faulty(api.ErrPlace, g.at)
	}
	sort := fields[i+1]
	switch {
	case g.bad():
		return g
	case !g.isStruct():
		return faulty(api.ErrType, at)
	case g.sort == "struct r" && i > 0, g.sort != "struct s" && g.sort != "struct r" && i > 0, sort == "":
		return faulty(api.ErrName, at)
	case g.sort == "struct big", g.sort == "struct fit":
		sort = map[string]string{"struct big": "char[257]", "struct fit": "char[256]"}[g.sort]
	}
	return guess{sort: sort, place: true, hidden: g.hidden, at: at}
}

// Check finds of any expression what the rules say of it.
func TestMixedExpressions(t *testing.T) {
	m := guesser{mixer: 1}
	counts := map[api.Errno]int{}
	for range 20000 {
		m.b.Reset()
		m.put(things + "int main() { ")
		from := m.b.Len()
		g := m.expr(1 + m.below(4))
		s := m.b.String()[from:]
		m.put("; return 0; }")
		v := g.value()
		if !g.bad() && v.isStruct() {
			g = faulty(api.ErrType, g.at)
		}
		counts[g.fault.Kind]++
		p, f := Check(m.b.String())
		if f != g.fault {
			t.Fatalf("%s: fault %d at %d, want %d at %d", s, int(f.Kind), f.At-from, int(g.fault.Kind), g.fault.At-from)
		}
		if g.bad() {
			continue
		}
		n := p.Funcs[p.Main].Body.Kids[0].E
		if got := p.Table.Show(n.Type); got != v.sort || n.Hid != v.hidden || n.At != v.at {
			t.Fatalf("%s: %s, hidden %v, at %d, want %+v", s, got, n.Hid, n.At-from, v)
		}
	}
	for _, kind := range []api.Errno{api.OK, api.ErrName, api.ErrType, api.ErrFlow, api.ErrPlace, api.ErrCall, api.ErrSize} {
		if counts[kind] == 0 {
			t.Errorf("fault %d doesn't occur", int(kind))
		}
	}
}
