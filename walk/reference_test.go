package walk

import (
	"slices"
	"strconv"
	"strings"

	"merlon/arith"
	"merlon/ctype"
)

// A mixer makes the tests' numbers: always the same ones.
type mixer uint64

func (m *mixer) below(n int) int {
	*m = *m*6364136223846793005 + 1442695040888963407
	return int(uint64(*m) >> 33 % uint64(n))
}

func (m *mixer) one(of ...string) string { return of[m.below(len(of))] }

// A sort is an integer type.
type sort struct {
	name   string
	size   int
	signed bool
}

func sorts() []sort {
	return []sort{{"char", 1, true}, {"unsigned char", 1, false}, {"short", 2, true}, {"unsigned short", 2, false}, {"int", 4, true}, {"unsigned int", 4, false}, {"long", 8, true}, {"unsigned long", 8, false}}
}

func intSort() sort { return sorts()[4] }

func (s sort) fit(n int64) int64 { return arith.Fit(ctype.IntOf(s.size, s.signed), n) }

func (s sort) promoted() sort {
	if s.size < 4 {
		return intSort()
	}
	return s
}

func common(a, b sort) sort {
	a, b = a.promoted(), b.promoted()
	if a.size < b.size || a.size == b.size && a.signed {
		return b
	}
	return a
}

// A thing is a variable while a program runs: numbers of one sort, or a pointer to one of them.
type thing struct {
	obj  int // below 0: it is kept separately
	size int
	nums []int64
	set  []bool
	to   ref
	gone bool // its call has ended
}

// A ref is a pointer to a number. Without a thing it is null.
type ref struct {
	of *thing
	at int
}

func (r ref) exists() bool {
	return r.of != nil && !r.of.gone && r.at >= 0 && r.at < len(r.of.set)
}

// isNull: whether it is null, asked by a condition or a comparison.
func (r ref) isNull() bool {
	mustHold(r.of == nil || !r.of.gone)
	return r.of == nil
}

// beside: by how many elements a pointer lies behind another one into the same thing.
func (r ref) beside(q ref) int64 {
	mustHold(!r.isNull() && !q.isNull() && r.of == q.of)
	return int64(r.at - q.at)
}

// What ends a run of the model ahead of its end.
type (
	tooLong  struct{}
	gotStuck struct{}
)

func mustHold(ok bool) {
	if !ok {
		panic(gotStuck{})
	}
}

// A state is what all calls of a run share.
type state struct {
	leaks   []string
	out     []int64
	objects int
	globals []*thing
	ticks   int
}

func (s *state) show(words ...string) {
	s.ticks++
	if s.ticks > 5000 {
		panic(tooLong{})
	}
	s.leaks = append(s.leaks, strings.Join(words, ""))
}

func (s *state) branch(way bool) bool {
	s.show("B", strconv.FormatInt(arith.Bool(way), 10))
	return way
}

// access shows a read or a write.
func (s *state) access(kind string, r ref) {
	switch {
	case r.of == nil:
		s.show(kind, "0+0")
	case r.of.obj >= 0:
		s.show(kind, strconv.Itoa(r.of.obj), "+", strconv.Itoa(r.at*r.of.size))
	}
}

func (s *state) get(r ref) int64 {
	s.access("R", r)
	mustHold(r.exists() && r.of.set[r.at])
	return r.of.nums[r.at]
}

func (s *state) put(r ref, n int64) int64 {
	s.access("W", r)
	mustHold(r.exists())
	r.of.nums[r.at] = n
	r.of.set[r.at] = true
	return n
}

func (s *state) getRef(t *thing) ref {
	s.access("R", ref{of: t})
	mustHold(t.set[0])
	return t.to
}

func (s *state) putRef(t *thing, p ref) ref {
	s.access("W", ref{of: t})
	t.to = p
	t.set[0] = true
	return p
}

// shifted is a pointer that was moved.
func shifted(p ref, n int64) ref {
	mustHold(!p.isNull() && n >= -32768 && n <= 32768)
	p.at += int(n)
	mustHold(p.at >= 0 && p.at <= len(p.of.set))
	return p
}

// An env is what a call evaluates in.
type env struct {
	*state
	locals []*thing
}

// A variable as it is declared: n numbers of a sort, or a pointer to an int.
type variable struct {
	name   string
	sort   sort
	n      int
	isPtr  bool
	memory bool
	global bool
	index  int
	counts bool // a loop counts by it
}

func (v variable) in(e *env) *thing {
	if v.global {
		return e.globals[v.index]
	}
	return e.locals[v.index]
}

func (v variable) make(s *state) *thing {
	t := &thing{obj: -1, size: v.sort.size, nums: make([]int64, v.n), set: make([]bool, v.n)}
	if v.memory {
		t.obj = s.objects
		s.objects++
	}
	return t
}

// declared is a variable's declaration, without a ;.
func (v variable) declared() string {
	switch {
	case v.isPtr:
		return "int *" + v.name
	case v.n > 1:
		return v.sort.name + " " + v.name + "[" + strconv.Itoa(v.n) + "]"
	}
	return v.sort.name + " " + v.name
}

// A numeric is an expression of an integer type, a pointing one of type int *, an lvalue one that may be assigned to, an action a statement: each a text, and what the chapter says of it.
type numeric struct {
	text string
	sort sort
	do   func(e *env) int64
}

type pointing struct {
	text string
	do   func(e *env) ref
}

type lvalue struct {
	text string
	sort sort
	do   func(e *env) ref
}

type action struct {
	text string
	do   func(e *env) jump
}

// A routine is a function of such actions.
type routine struct {
	name   string
	ret    sort
	params int
	locals []variable
	body   action
	result numeric
}

func (f *routine) call(s *state, args []int64, to ref) int64 {
	e := &env{state: s}
	for _, v := range f.locals {
		e.locals = append(e.locals, v.make(s))
	}
	for i, v := range f.locals[:f.params] {
		if v.isPtr {
			e.putRef(e.locals[i], to)
		} else {
			e.put(ref{of: e.locals[i]}, args[i])
		}
	}
	n := int64(0)
	if f.body.do(e) == onward {
		n = f.ret.fit(f.result.do(e))
	}
	for _, t := range e.locals {
		t.gone = true
	}
	return n
}

// A writer makes up programs.
type writer struct {
	mixer
	globals  []variable
	routines []*routine
	locals   []variable // of the function at hand
	visible  []variable
	loops    int
	cases    int
	names    int
	left     int // how many statements there may be
}

func (w *writer) name(kind string) string {
	w.names++
	return kind + strconv.Itoa(w.names)
}

// some is a variable that is visible; false: there is none like that.
func (w *writer) some(like func(v variable) bool) (variable, bool) {
	var all []variable
	for _, v := range slices.Concat(w.globals, w.visible) {
		if like(v) {
			all = append(all, v)
		}
	}
	if len(all) == 0 {
		return variable{}, false
	}
	return all[w.below(len(all))], true
}
