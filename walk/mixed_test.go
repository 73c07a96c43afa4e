package walk

import (
	"strconv"
	"strings"
	"testing"

	"merlon/api"
	"merlon/arith"
	"merlon/ctype"
)

func (w *writer) constant() numeric {
	n := int64(w.below(9))
	if w.below(6) == 0 {
		n = []int64{127, 128, 255, 256, 32768, 65535, 70000, 1<<31 - 1}[w.below(8)]
	}
	k := w.below(8)
	s := []sort{intSort(), intSort(), intSort(), intSort(), intSort(), sorts()[5], sorts()[6], sorts()[7]}[k]
	return numeric{strconv.FormatInt(n, 10) + []string{"", "", "", "", "", "u", "l", "ul"}[k], s, func(*env) int64 { return n }}
}

// place is an lvalue of an integer type.
func (w *writer) place(n int) lvalue {
	if n > 0 && w.below(4) == 0 {
		p := w.pointing(n - 1)
		if w.below(2) == 0 {
			return lvalue{"*" + p.text, intSort(), p.do}
		}
		i := w.index(0)
		return lvalue{p.text + "[" + i.text + "]", intSort(), func(e *env) ref {
			q := p.do(e)
			return shifted(q, i.do(e))
		}}
	}
	v, found := w.some(func(v variable) bool { return !v.isPtr && !v.counts })
	if !found || v.n == 1 {
		if !found {
			v = w.globals[0]
		}
		return lvalue{v.name, v.sort, func(e *env) ref { return ref{of: v.in(e)} }}
	}
	i := w.index(n - 1)
	text := v.name + "[" + i.text + "]"
	if w.below(4) == 0 {
		text = "(" + i.text + ")[" + v.name + "]"
	}
	return lvalue{text, v.sort, func(e *env) ref { return shifted(ref{of: v.in(e)}, i.do(e)) }}
}

// index is a number that is mostly small.
func (w *writer) index(n int) numeric {
	if w.below(3) > 0 || n == 0 {
		k := int64(w.below(3 + n))
		return numeric{strconv.FormatInt(k, 10), intSort(), func(*env) int64 { return k }}
	}
	i := w.numeric(n)
	if w.below(20) == 0 {
		return i
	}
	return numeric{i.text + " & 3", i.sort, func(e *env) int64 { return i.do(e) & 3 }}
}

func (w *writer) numeric(n int) numeric {
	if n <= 0 {
		return w.leaf()
	}
	switch w.below(13) {
	case 0, 1, 2:
		return w.binary(n)
	case 3:
		return w.unary(n)
	case 4:
		return w.comparison(n)
	case 5:
		return w.both(n)
	case 6:
		return w.choice(n)
	case 7:
		return w.assigned(n)
	case 8:
		return w.stepped(n)
	case 9:
		return w.called(n)
	case 10:
		return w.aboutPointers(n)
	case 11:
		p := w.place(n)
		return numeric{p.text, p.sort, func(e *env) int64 { return e.get(p.do(e)) }}
	}
	return w.leaf()
}

func (w *writer) leaf() numeric {
	v, found := w.some(func(v variable) bool { return !v.isPtr && v.n == 1 })
	if !found || w.below(3) == 0 {
		return w.constant()
	}
	return numeric{v.name, v.sort, func(e *env) int64 { return e.get(ref{of: v.in(e)}) }}
}

// reckoned is an operator as the chapter on arith has it.
func reckoned(op string, s sort, a, b int64) int64 {
	t := ctype.IntOf(s.size, s.signed)
	if op != "<<" && op != ">>" {
		b = s.fit(b)
	}
	n, ok := arith.Bin(op, t, s.fit(a), b)
	mustHold(ok)
	return n
}

func resultSort(op string, a, b sort) sort {
	if op == "<<" || op == ">>" {
		return a.promoted()
	}
	return common(a, b)
}

func (w *writer) operator() string {
	return w.one("+", "+", "-", "-", "*", "&", "|", "^", "<<", ">>", "/", "%")
}

// second is an operator's second operand: that of a quotient is mostly not 0.
func (w *writer) second(op string, n int) numeric {
	b := w.numeric(n)
	if (op == "/" || op == "%") && w.below(25) > 0 {
		return numeric{"(" + b.text + " | 1)", common(b.sort, intSort()), func(e *env) int64 { return common(b.sort, intSort()).fit(b.do(e) | 1) }}
	}
	return b
}

func (w *writer) binary(n int) numeric {
	op := w.operator()
	a := w.numeric(n - 1)
	b := w.second(op, n-1)
	s := resultSort(op, a.sort, b.sort)
	return numeric{"(" + a.text + " " + op + " " + b.text + ")", s, func(e *env) int64 {
		x := a.do(e)
		return reckoned(op, s, x, b.do(e))
	}}
}

func (w *writer) unary(n int) numeric {
	a := w.numeric(n - 1)
	switch w.below(4) {
	case 0:
		return numeric{"(-" + a.text + ")", a.sort.promoted(), func(e *env) int64 { return a.sort.promoted().fit(-a.do(e)) }}
	case 1:
		return numeric{"(~" + a.text + ")", a.sort.promoted(), func(e *env) int64 { return a.sort.promoted().fit(^a.do(e)) }}
	case 2:
		return numeric{"(!" + a.text + ")", intSort(), func(e *env) int64 { return arith.Bool(a.do(e) == 0) }}
	}
	s := sorts()[w.below(8)]
	return numeric{"((" + s.name + ") " + a.text + ")", s, func(e *env) int64 { return s.fit(a.do(e)) }}
}

func (w *writer) comparison(n int) numeric {
	op := w.one("==", "!=", "<", ">", "<=", ">=")
	a, b := w.numeric(n-1), w.numeric(n-1)
	s := common(a.sort, b.sort)
	return numeric{"(" + a.text + " " + op + " " + b.text + ")", intSort(), func(e *env) int64 {
		x := s.fit(a.do(e))
		return arith.Cmp(op, ctype.IntOf(s.size, s.signed), x, s.fit(b.do(e)))
	}}
}

// condition is a number or a pointer that isn't 0.
func (w *writer) condition(n int) (string, func(e *env) bool) {
	if w.below(8) == 0 {
		p := w.pointing(n)
		return p.text, func(e *env) bool { return !p.do(e).isNull() }
	}
	a := w.numeric(n)
	return a.text, func(e *env) bool { return a.do(e) != 0 }
}

func (w *writer) both(n int) numeric {
	op := w.one("&&", "||")
	a, first := w.condition(n - 1)
	b, second := w.condition(n - 1)
	return numeric{"(" + a + " " + op + " " + b + ")", intSort(), func(e *env) int64 {
		holds := e.branch(first(e))
		if op == "&&" && holds || op == "||" && !holds {
			holds = e.branch(second(e))
		}
		return arith.Bool(holds)
	}}
}

func (w *writer) choice(n int) numeric {
	c, test := w.condition(n - 1)
	a, b := w.numeric(n-1), w.numeric(n-1)
	s := common(a.sort, b.sort)
	return numeric{"(" + c + " ? " + a.text + " : " + b.text + ")", s, func(e *env) int64 {
		if e.branch(test(e)) {
			return s.fit(a.do(e))
		}
		return s.fit(b.do(e))
	}}
}

func (w *writer) assigned(n int) numeric {
	to := w.place(n - 1)
	if w.below(2) == 0 {
		a := w.numeric(n - 1)
		return numeric{"(" + to.text + " = " + a.text + ")", to.sort, func(e *env) int64 {
			r := to.do(e)
			return e.put(r, to.sort.fit(a.do(e)))
		}}
	}
	op := w.operator()
	a := w.second(op, n-1)
	s := resultSort(op, to.sort, a.sort)
	return numeric{"(" + to.text + " " + op + "= " + a.text + ")", to.sort, func(e *env) int64 {
		r := to.do(e)
		old := e.get(r)
		return e.put(r, to.sort.fit(reckoned(op, s, old, a.do(e))))
	}}
}

func (w *writer) stepped(n int) numeric {
	to := w.place(n - 1)
	by, sign := int64(1), "++"
	if w.below(2) == 0 {
		by, sign = -1, "--"
	}
	if w.below(2) == 0 {
		return numeric{"(" + sign + to.text + ")", to.sort, func(e *env) int64 {
			r := to.do(e)
			return e.put(r, to.sort.fit(e.get(r)+by))
		}}
	}
	return numeric{"((" + to.text + ")" + sign + ")", to.sort, func(e *env) int64 {
		r := to.do(e)
		old := e.get(r)
		e.put(r, to.sort.fit(old+by))
		return old
	}}
}

// called is a call, or in some cases one through a pointer that may be null.
func (w *writer) called(n int) numeric {
	if len(w.routines) == 0 {
		return w.leaf()
	}
	i := w.below(len(w.routines))
	f := w.routines[i]
	text := f.name
	shown := func(*env) {}
	if w.below(3) == 0 {
		c, test := w.condition(0)
		other := w.one("0", f.name, f.name, f.name)
		text = "(" + c + " ? " + f.name + " : " + other + ")"
		shown = func(e *env) {
			mustHold(e.branch(test(e)) || other != "0")
			e.show("C", strconv.Itoa(i))
		}
	}
	var args []numeric
	var to pointing
	var texts []string
	for _, v := range f.locals[:f.params] {
		if v.isPtr {
			to = w.pointing(n - 1)
			texts = append(texts, to.text)
			args = append(args, numeric{})
			continue
		}
		a := w.numeric(n - 1)
		texts = append(texts, a.text)
		args = append(args, a)
	}
	return numeric{text + "(" + strings.Join(texts, ", ") + ")", f.ret, func(e *env) int64 {
		shown(e)
		given := make([]int64, len(args))
		var p ref
		for k, a := range args {
			if f.locals[k].isPtr {
				p = to.do(e)
			} else {
				given[k] = f.locals[k].sort.fit(a.do(e))
			}
		}
		return f.call(e.state, given, p)
	}}
}

// aboutPointers compares or subtracts pointers.
func (w *writer) aboutPointers(n int) numeric {
	p := w.pointing(n - 1)
	q := w.pointing(n - 1)
	switch w.below(8) {
	case 0:
		return numeric{"(" + p.text + " - " + q.text + ")", sorts()[6], func(e *env) int64 {
			a := p.do(e)
			return a.beside(q.do(e))
		}}
	case 1, 2, 3:
		return numeric{"(!" + p.text + ")", intSort(), func(e *env) int64 { return arith.Bool(p.do(e).isNull()) }}
	case 4, 5:
		return numeric{"(" + p.text + " == 0)", intSort(), func(e *env) int64 { return arith.Bool(p.do(e).isNull()) }}
	}
	op := w.one("==", "!=", "<", ">", "<=", ">=")
	return numeric{"(" + p.text + " " + op + " " + q.text + ")", intSort(), func(e *env) int64 {
		a := p.do(e)
		b := q.do(e)
		x, y := a.isNull(), b.isNull()
		if (op == "==" || op == "!=") && (x || y) {
			return arith.Bool((x && y) == (op == "=="))
		}
		return arith.Cmp(op, ctype.IntOf(8, true), a.beside(b), 0)
	}}
}

// pointing is an expression of type int *; there is always a global array of ints.
func (w *writer) pointing(n int) pointing {
	table := w.globals[0]
	v, found := w.some(func(v variable) bool { return v.isPtr })
	switch k := w.below(9); {
	case n > 0 && k == 0 && w.below(4) == 0:
		p, i := w.pointing(n-1), w.index(n-1)
		if w.below(3) == 0 {
			return pointing{"((" + i.text + ") + " + p.text + ")", func(e *env) ref {
				by := i.do(e)
				return shifted(p.do(e), by)
			}}
		}
		return pointing{"(" + p.text + " - (" + i.text + ") + 1)", func(e *env) ref {
			q := p.do(e)
			return shifted(shifted(q, -i.do(e)), 1)
		}}
	case n > 0 && k == 1:
		c, test := w.condition(n - 1)
		p, q := w.pointing(n-1), w.pointing(n-1)
		return pointing{"(" + c + " ? " + p.text + " : " + q.text + ")", func(e *env) ref {
			if e.branch(test(e)) {
				return p.do(e)
			}
			return q.do(e)
		}}
	case n > 0 && k == 2 && found:
		p := w.pointing(n - 1)
		return pointing{"(" + v.name + " = " + p.text + ")", func(e *env) ref { return e.putRef(v.in(e), p.do(e)) }}
	case n > 0 && k == 3 && found && w.below(2) == 0:
		return w.steppedPointer(v)
	case k < 6:
		x, found := w.some(func(v variable) bool { return v.memory && v.n == 1 && !v.isPtr && v.sort == intSort() && !v.global })
		if found {
			return pointing{"(&" + x.name + ")", func(e *env) ref { return ref{of: x.in(e)} }}
		}
	case k < 8 && found:
		return pointing{v.name, func(e *env) ref { return e.getRef(v.in(e)) }}
	}
	return pointing{"(" + table.name + " + 1)", func(e *env) ref { return shifted(ref{of: table.in(e)}, 1) }}
}

func (w *writer) steppedPointer(v variable) pointing {
	by, sign := int64(1), "++"
	if w.below(2) == 0 {
		by, sign = -1, "--"
	}
	switch w.below(3) {
	case 0:
		return pointing{"(" + sign + v.name + ")", func(e *env) ref { return e.putRef(v.in(e), shifted(e.getRef(v.in(e)), by)) }}
	case 1:
		return pointing{"(" + v.name + " " + sign[:1] + "= 1)", func(e *env) ref { return e.putRef(v.in(e), shifted(e.getRef(v.in(e)), by)) }}
	}
	return pointing{"(" + v.name + sign + ")", func(e *env) ref {
		old := e.getRef(v.in(e))
		e.putRef(v.in(e), shifted(old, by))
		return old
	}}
}

// block is a scope with some statements.
func (w *writer) block(depth int) action {
	seen := len(w.visible)
	list := w.actions(1+w.below(4), depth)
	w.visible = w.visible[:seen]
	return action{"{ " + list.text + "}", list.do}
}

func (w *writer) actions(n, depth int) action {
	var list []action
	text := ""
	for range n {
		a := w.action(depth)
		list = append(list, a)
		text += a.text + " "
	}
	return action{text, func(e *env) jump {
		for _, a := range list {
			if to := a.do(e); to != onward {
				return to
			}
		}
		return onward
	}}
}

func (w *writer) action(depth int) action {
	w.left--
	if depth <= 0 || w.left < 0 {
		return w.simple()
	}
	switch w.below(9) {
	case 0, 1:
		return w.branching(depth)
	case 2:
		return w.counting(depth)
	case 3:
		return w.looping(depth)
	case 4:
		return w.switching(depth)
	case 5:
		return w.jumping()
	case 6:
		return w.block(depth - 1)
	case 7:
		return w.declaration()
	}
	return w.simple()
}

func (w *writer) simple() action {
	if w.below(3) == 0 {
		a := w.numeric(2)
		return action{"out(" + a.text + ");", func(e *env) jump {
			e.out = append(e.out, a.do(e))
			return onward
		}}
	}
	a := w.numeric(3)
	return action{a.text + ";", func(e *env) jump {
		a.do(e)
		return onward
	}}
}

// add makes a local of the function at hand. One whose address is taken somewhere is in memory.
func (w *writer) add(v variable) variable {
	v.index = len(w.locals)
	w.locals = append(w.locals, v)
	w.visible = append(w.visible, v)
	return v
}

func (w *writer) declaration() action {
	v := variable{name: w.name("v"), sort: sorts()[w.below(8)], n: 1}
	switch w.below(5) {
	case 0:
		v.n, v.memory = 4, true
	case 1:
		v.sort, v.isPtr = sort{}, true
	case 2:
		v.memory = true
	case 3:
		v.sort, v.memory = intSort(), true
	}
	taken := ""
	if v.memory && v.n == 1 {
		taken = " &" + v.name + ";"
	}
	switch {
	case v.isPtr:
		p := w.pointing(2)
		v = w.add(v)
		return action{v.declared() + " = " + p.text + ";", func(e *env) jump {
			e.putRef(v.in(e), p.do(e))
			return onward
		}}
	case v.n == 1 && w.below(4) > 0:
		a := w.numeric(2)
		v = w.add(v)
		return action{v.declared() + " = " + a.text + ";" + taken, func(e *env) jump {
			e.put(ref{of: v.in(e)}, v.sort.fit(a.do(e)))
			return onward
		}}
	}
	v = w.add(v)
	// Mostly it gets its values behind the declaration.
	fill := v.n
	if w.below(4) == 0 {
		fill = 0
	}
	text := v.declared() + ";" + taken
	for i := range fill {
		text += " " + v.name
		if v.n > 1 {
			text += "[" + strconv.Itoa(i) + "]"
		}
		text += " = " + strconv.Itoa(i+5) + ";"
	}
	return action{text, func(e *env) jump {
		clear(v.in(e).set)
		for i := range fill {
			e.put(ref{v.in(e), i}, int64(i+5))
		}
		return onward
	}}
}

func (w *writer) branching(depth int) action {
	c, test := w.condition(2)
	a := w.block(depth - 1)
	if w.below(2) == 0 {
		return action{"if (" + c + ") " + a.text, func(e *env) jump {
			if e.branch(test(e)) {
				return a.do(e)
			}
			return onward
		}}
	}
	b := w.block(depth - 1)
	return action{"if (" + c + ") " + a.text + " else " + b.text, func(e *env) jump {
		if e.branch(test(e)) {
			return a.do(e)
		}
		return b.do(e)
	}}
}

// counting is a for that counts.
func (w *writer) counting(depth int) action {
	seen := len(w.visible)
	v := w.add(variable{name: w.name("i"), sort: intSort(), n: 1, counts: true})
	n := int64(w.below(4))
	w.loops++
	b := w.block(depth - 1)
	w.loops--
	w.visible = w.visible[:seen]
	text := "for (int " + v.name + " = 0; " + v.name + " < " + strconv.FormatInt(n, 10) + "; " + v.name + "++) " + b.text
	return action{text, func(e *env) jump {
		i := ref{of: v.in(e)}
		for e.put(i, 0); e.branch(e.get(i) < n); e.put(i, e.get(i)+1) {
			switch b.do(e) {
			case leaves:
				return leaves
			case breaks:
				return onward
			}
		}
		return onward
	}}
}

// looping is a while or a do, which counts down, too.
func (w *writer) looping(depth int) action {
	seen := len(w.visible)
	v := w.add(variable{name: w.name("i"), sort: intSort(), n: 1, counts: true})
	n := int64(w.below(4))
	w.loops++
	b := w.block(depth - 1)
	w.loops--
	w.visible = w.visible[:seen]
	c, test := w.condition(1)
	first := w.below(2) == 0
	check := v.name + "-- > 0 && " + c
	goesOn := func(e *env) bool {
		i := ref{of: v.in(e)}
		old := e.get(i)
		e.put(i, old-1)
		return e.branch(e.branch(old > 0) && e.branch(test(e)))
	}
	text := "{ int " + v.name + " = " + strconv.FormatInt(n, 10) + "; do " + b.text + " while (" + check + "); }"
	if first {
		text = "{ int " + v.name + " = " + strconv.FormatInt(n, 10) + "; while (" + check + ") " + b.text + " }"
	}
	return action{text, func(e *env) jump {
		e.put(ref{of: v.in(e)}, n)
		for !first || goesOn(e) {
			switch b.do(e) {
			case leaves:
				return leaves
			case breaks:
				return onward
			}
			if !first && !goesOn(e) {
				return onward
			}
		}
		return onward
	}}
}

// A group of a switch.
type group struct {
	values []int64
	other  bool // the default is one of its labels
	body   action
}

// chosenOf: the group with which a switch begins.
func chosenOf(e *env, groups []group, n int64) int {
	other := len(groups)
	for i, g := range groups {
		if g.other {
			other = i
		}
	}
	for i, g := range groups {
		for _, v := range g.values {
			if e.branch(v == n) {
				return i
			}
		}
	}
	return other
}

func (w *writer) switching(depth int) action {
	a := w.numeric(2)
	s := a.sort.promoted()
	seen := len(w.visible)
	w.cases++
	text := "switch (" + a.text + " & 3) { "
	values := []int{0, 1, 2, 3, 4, 5, 6}
	hasDefault := false
	var groups []group
	for range w.below(4) {
		g := group{}
		for range 1 + w.below(2) {
			if !hasDefault && w.below(4) == 0 {
				hasDefault, g.other = true, true
				text += "default: "
			} else {
				k := w.below(len(values))
				g.values = append(g.values, int64(values[k]))
				text += "case " + strconv.Itoa(values[k]) + ": "
				values = append(values[:k:k], values[k+1:]...)
			}
		}
		// A ; begins the group's statements, so that its labels aren't those of the next one.
		g.body = w.actions(1+w.below(2), depth-1)
		text += "; " + g.body.text
		groups = append(groups, g)
	}
	w.cases--
	w.visible = w.visible[:seen]
	return action{text + "}", func(e *env) jump {
		n := s.fit(a.do(e) & 3)
		for _, g := range groups[chosenOf(e, groups, n):] {
			switch to := g.body.do(e); to {
			case breaks:
				return onward
			case continues, leaves:
				return to
			}
		}
		return onward
	}}
}

func (w *writer) jumping() action {
	c, test := w.condition(1)
	text, to := "return 0;", leaves
	switch {
	case w.loops > 0 && w.below(2) == 0:
		text, to = "continue;", continues
	case w.loops+w.cases > 0:
		text, to = "break;", breaks
	}
	return action{"if (" + c + ") " + text, func(e *env) jump {
		if e.branch(test(e)) {
			return to
		}
		return onward
	}}
}

// pointed lets the global pointer point somewhere first.
func pointed(b action) action {
	return action{"g1 = g0 + 1; " + b.text, func(e *env) jump {
		e.putRef(e.globals[1], ref{e.globals[0], 1})
		return b.do(e)
	}}
}

// routine adds a function.
func (w *writer) routine(name string, ret sort, params int) string {
	w.locals, w.visible, w.left = nil, nil, 12
	f := &routine{name: name, ret: ret, params: params}
	heads := []string{}
	taken := ""
	hasPtr := false
	for range params {
		v := variable{name: w.name("a"), sort: sorts()[w.below(8)], n: 1, memory: w.below(3) == 0}
		if !hasPtr && w.below(3) == 0 {
			hasPtr = true
			v.sort, v.isPtr = sort{}, true
		}
		if v.memory {
			taken += "&" + v.name + "; "
		}
		w.add(v)
		heads = append(heads, v.declared())
	}
	b := w.actions(3+w.below(4), 3)
	if name == "main" {
		b = pointed(b)
	}
	f.result = w.numeric(2)
	f.body = b
	f.locals = w.locals
	w.routines = append(w.routines, f)
	return ret.name + " " + name + "(" + strings.Join(heads, ", ") + ") { " + taken + b.text + "return " + f.result.text + "; } "
}

// global adds a global with its first numbers.
func (w *writer) global(v variable, first []int64) (string, func(s *state)) {
	v.global, v.memory, v.index = true, true, len(w.globals)
	w.globals = append(w.globals, v)
	texts := []string{}
	for _, n := range first {
		texts = append(texts, strconv.FormatInt(n, 10))
	}
	text := v.declared() + " = " + strings.Join(texts, ", ") + "; "
	if v.n > 1 {
		text = v.declared() + " = {" + strings.Join(texts, ", ") + "}; "
	}
	return text, func(s *state) {
		t := v.make(s)
		for i := range v.n {
			t.set[i] = true
			if i < len(first) && !v.isPtr {
				t.nums[i] = v.sort.fit(first[i])
			}
		}
		s.globals = append(s.globals, t)
	}
}

// play runs the last routine by the model: how it ends, and what it returns; false: it takes too long.
func (w *writer) play(s *state) (end api.Errno, exit int64, fits bool) {
	defer func() {
		switch what := recover().(type) {
		case nil:
		case gotStuck:
			end, exit, fits = api.ErrStuck, 0, true
		case tooLong:
			end, exit, fits = 0, 0, false
		default:
			panic(what)
		}
	}()
	return api.OK, w.routines[len(w.routines)-1].call(s, nil, ref{}), true
}

func TestMixedPrograms(t *testing.T) {
	ends := map[api.Errno]int{}
	long, shown := 0, 0
	for seed := range 1500 {
		w := &writer{mixer: mixer(seed)}
		s := &state{}
		source := strings.Builder{}
		for i := range 5 {
			v := variable{name: "g" + strconv.Itoa(i), sort: sorts()[w.below(8)], n: 1}
			first := []int64{int64(w.below(300)) - 20}
			switch i {
			case 0:
				v.sort, v.n, first = intSort(), 4, []int64{1, 2, 3}
			case 1:
				v.sort, v.isPtr, first = sort{}, true, []int64{0}
			case 2:
				v.n = 4
			}
			text, start := w.global(v, first)
			source.WriteString(text)
			start(s)
		}
		for i := range 3 {
			source.WriteString(w.routine("f"+strconv.Itoa(i), sorts()[w.below(8)], w.below(3)))
		}
		source.WriteString(w.routine("main", intSort(), 0))
		end, exit, fits := w.play(s)
		if !fits {
			long++
			continue
		}
		ends[end]++
		shown += len(s.leaks)
		r := walked(t, source.String(), "")
		if r.End != end || r.Exit != exit || numbers(r.Out) != numbers(s.out) || view(r.Leaks) != strings.Join(s.leaks, " ") {
			t.Fatalf("%d: %s\nends with %d, returns %d, writes %s, shows\n%s\nwant %d, %d, %s and\n%s", seed, source.String(), int(r.End), r.Exit, numbers(r.Out), view(r.Leaks), int(end), exit, numbers(s.out), strings.Join(s.leaks, " "))
		}
	}
	t.Logf("%v, too long %d, %d observations", ends, long, shown)
	if ends[api.OK] < 500 || ends[api.ErrStuck] < 200 || shown < 100000 {
		t.Errorf("too few programs: %v end, with %d observations", ends, shown)
	}
}
