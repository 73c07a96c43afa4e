package check

import (
	"strings"
	"testing"

	"merlon/api"
	"merlon/lex"
)

// A source whose locals are written as $0 to $9: their names don't matter, as long as they differ where they must.
func named(s string, names []string) string {
	for i, n := range names {
		s = strings.ReplaceAll(s, "$"+string(rune('0'+i)), n)
	}
	return s
}

// locals are sources with such locals: some have a fault.
func locals() []string {
	heads := "int gg; secret int kk; struct ss { int aa; secret int bb; }; struct ss zz; int ff(int $0) { return $0; } "
	return []string{
		heads + "int main() { int $0; int $1 = $0; return $1; }",
		heads + "int hh(int $0, int *$1, secret int $2) { int $3 = *$1; { int $0 = $3; $3 = $0; } for (int $4 = 0; $4 < $3; $4++) { $2 += $4; } return ff($0); } int main() { return hh(1, &gg, kk); }",
		heads + "int main() { struct ss $0 = zz; struct ss *$1 = &$0; $1->bb = kk; $0.aa = $1->aa; return $0.aa; }",
		heads + "int main() { struct ss $0 = zz; return $0.bb; }",
		heads + "int main() { int $0[3]; return $0[kk]; }",
		heads + "int main() { int $0; int $1; int $0; return $1; }",
		heads + "int main() { int $0; { int $1; } return $1; }",
		heads + "int main() { secret int $0 = kk; int $1; if ($0) $1 = 2; $1 = $0; return 1; }",
		heads + "int main() { int (*$0)(int) = ff; out($0(1)); switch (gg) { case 1: int $1; case 2: $1 = 3; } return $0(2, 3); }",
		heads + "int hh(int $0, int $1, int $0) { return $1; } int main() { return 0; }",
		heads + "int main() { long $0[511]; int $1; int $2; return $1; }",
		heads + "int main() { int $0; while ($0) { int $1; break; } do { int $1 = $0; continue; } while ($0 = $1); return 0; }",
	}
}

func TestNamesOfLocals(t *testing.T) {
	plain := []string{"b0", "b1", "b2", "b3", "b4"}
	others := [][]string{
		{"b4", "b3", "b2", "b1", "b0"},
		{"xx", "yy", "aa", "bb", "_0"},
		{"ss", "s", "a_", "A0", "i"},
	}
	for _, s := range locals() {
		first, f := Check(named(s, plain))
		for _, names := range others {
			second, g := Check(named(s, names))
			if f.Kind != g.Kind || (first == nil) != (second == nil) {
				t.Errorf("%s: fault %d at %d, with %v fault %d at %d", s, int(f.Kind), f.At, names, int(g.Kind), g.At)
				continue
			}
			if first != nil && showProg(first) != showProg(second) {
				t.Errorf("%s: another tree with %v", s, names)
			}
		}
	}
	kinds := []api.Errno{api.OK, api.OK, api.OK, api.ErrFlow, api.ErrFlow, api.ErrTwice, api.ErrName, api.ErrFlow, api.ErrCall, api.ErrTwice, api.ErrFrame, api.ErrName}
	for i, s := range locals() {
		if _, f := Check(named(s, plain)); f.Kind != kinds[i] {
			t.Errorf("%s: fault %d", s, int(f.Kind))
		}
	}
}

// showProg is a program's text without the names of locals.
func showProg(p *Prog) string {
	var b strings.Builder
	for _, f := range p.Funcs {
		b.WriteString(f.Name + p.Table.Show(f.Type))
		for _, v := range f.Locals {
			b.WriteString(" " + p.Table.Show(v.Type))
			if v.Memory {
				b.WriteString("&")
			}
		}
		b.WriteString(showStmt(p, f.Body))
	}
	return b.String()
}

// pieces are what the mixed sources are made of.
func pieces() []string {
	return strings.Fields("x k p t z zp zs f fp out main y v c l 0 1 7u 'a' + - * / % & | ^ ~ ! < > = == != << >> <= >= && || ? : ; ; ; , . -> ( ) ( ) [ ] { } ++ -- += <<= if else while do for switch case default break continue return int char long secret unsigned void struct s sizeof (char) (int) *p a b next n")
}

// Any source is checked to an end: with a program, or with a fault within the source.
func TestAnySource(t *testing.T) {
	m := mixer(7)
	all := pieces()
	for range 6000 {
		var b strings.Builder
		b.WriteString("struct s { int a; secret int b; struct s *next; int n[2]; }; struct s z; struct s zs[2]; struct s *zp; secret int k; int x; int *p; int t[4]; void *v; char c; long l; int (*fp)(int); int f(int a) { return a; } int main() { ")
		for range 1 + m.below(14) {
			b.WriteString(all[m.below(len(all))] + " ")
		}
		b.WriteString("; return 0; }")
		ends(t, b.String())
	}
	for _, s := range append(locals(), things+end, inMain("x = 1; z = w; if (x) { switch (x) { case 1: break; } }")) {
		s = named(s, []string{"b0", "b1", "b2", "b3", "b4"})
		tokens, _ := lex.Scan(s)
		for i, k := range tokens[:len(tokens)-1] {
			behind := s[k.At+len(k.Text):]
			ends(t, s[:k.At]+behind)
			ends(t, s[:k.At]+" "+all[m.below(len(all))]+" "+behind)
			ends(t, s[:tokens[i].At])
		}
	}
}

func ends(t *testing.T, s string) {
	t.Helper()
	p, f := Check(s)
	if (p == nil) != (f.Kind != api.OK) || f.At < 0 || f.At > len(s) || f.Kind == api.OK && f.At != 0 {
		t.Errorf("%q: a program: %v, fault %d at %d", short(s), p != nil, int(f.Kind), f.At)
	}
}

// Blanks move a fault, but change nothing else.
func TestBlanks(t *testing.T) {
	for _, s := range append(locals(), inMain("x = k;"), inMain("int y[2] = 1;"), inMain("switch (x) { case 1: ; case 1: ; }")) {
		s = named(s, []string{"b0", "b1", "b2", "b3", "b4"})
		tokens, _ := lex.Scan(s)
		var b strings.Builder
		moved := map[int]int{}
		for _, k := range tokens {
			b.WriteString("/* x */ ")
			moved[k.At] = b.Len()
			b.WriteString(k.Text)
		}
		_, f := Check(s)
		_, g := Check(b.String())
		if f.Kind != g.Kind || f.Kind != api.OK && moved[f.At] != g.At {
			t.Errorf("%s: fault %d at %d, with blanks %d at %d", short(s), int(f.Kind), f.At, int(g.Kind), g.At)
		}
	}
}
