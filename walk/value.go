package walk

import (
	"merlon/api"
	"merlon/arith"
	"merlon/check"
	"merlon/objs"
)

// value: the value of an expression, nothing of a void one. It only leads on, so that its frame is small: expressions may be nested thousands of times, in each of a hundred calls.
func (r *run) value(n *check.Node) objs.Value {
	if !r.step(1) {
		return objs.Value{}
	}
	switch n.Op {
	case check.Const:
		return number(n.Num)
	case check.FuncVal:
		return function(n.Ref)
	case check.NullValue:
		return pointer(objs.Ptr{})
	case check.Load:
		return r.load(n.Kids[0], r.place(n.Kids[0]))
	case check.AddrOf:
		return pointer(r.place(n.Kids[0]).p)
	case check.Conv:
		return r.convert(n)
	case check.Truth:
		return r.truth(n)
	case check.And, check.Or:
		return r.both(n)
	case check.Cond:
		return r.choice(n)
	case check.Bin, check.Cmp, check.PtrCmp, check.PtrDiff:
		return r.binary(n)
	case check.PtrAdd:
		return r.sum(n)
	case check.Assign:
		return r.assign(n)
	case check.AssignOp:
		return r.assignOp(n)
	case check.Step:
		return r.increment(n)
	case check.CopyTo:
		return r.copyTo(n)
	case check.CallFunc:
		return r.callFunc(n)
	case check.CallPtr:
		return r.callPtr(n)
	case check.Out:
		return r.out(n)
	}
	return objs.Value{}
}

func (r *run) convert(n *check.Node) objs.Value {
	v := r.value(n.Kids[0])
	return number(arith.Fit(n.Type, v.Num))
}

// truth: whether a number isn't 0, or a pointer isn't null; for "!" whether it is.
func (r *run) truth(n *check.Node) objs.Value {
	v := r.value(n.Kids[0])
	zero := v.Num == 0
	if v.IsPtr {
		r.need(r.memory.Alive(v.P))
		zero = isNull(v.P)
	}
	return number(arith.Bool(zero == (n.Text == "!")))
}

// test: whether a condition holds, which is shown.
func (r *run) test(n *check.Node) bool {
	v := r.value(n)
	r.show(api.LeakBranch, v.Num, 0)
	return v.Num != 0 && !r.ended()
}

// both: && and ||. The first part decides if it makes the result known.
func (r *run) both(n *check.Node) objs.Value {
	decides := n.Op == check.Or
	holds := r.test(n.Kids[0])
	if holds != decides {
		holds = r.test(n.Kids[1])
	}
	return number(arith.Bool(holds))
}

func (r *run) choice(n *check.Node) objs.Value {
	if r.test(n.Kids[0]) {
		return r.value(n.Kids[1])
	}
	return r.value(n.Kids[2])
}

// binary: an operator that evaluates both operands in order.
func (r *run) binary(n *check.Node) objs.Value {
	a := r.value(n.Kids[0])
	b := r.value(n.Kids[1])
	return number(r.operate(n, a, b))
}

func (r *run) operate(n *check.Node, a, b objs.Value) int64 {
	switch n.Op {
	case check.Cmp:
		return arith.Cmp(n.Text, n.Kids[0].Type, a.Num, b.Num)
	case check.PtrCmp:
		return r.comparePtrs(n.Text, a.P, b.P)
	case check.PtrDiff:
		return r.difference(a.P, b.P, n.Num)
	}
	return r.reckon(n.Text, n.Type, a.Num, b.Num)
}

// reckon: an operator of two numbers, whose quotient must be defined.
func (r *run) reckon(op string, t api.Type, a, b int64) int64 {
	n, ok := arith.Bin(op, t, a, b)
	r.need(ok)
	return n
}

// sum: a pointer that is moved.
func (r *run) sum(n *check.Node) objs.Value {
	var p, by objs.Value
	if n.Text == "late" {
		by = r.value(n.Kids[1])
		p = r.value(n.Kids[0])
	} else {
		p = r.value(n.Kids[0])
		by = r.value(n.Kids[1])
	}
	return pointer(r.move(p.P, by.Num, n.Num))
}

// out writes a number.
func (r *run) out(n *check.Node) objs.Value {
	v := r.value(n.Kids[0])
	r.write(v.Num)
	return objs.Value{}
}
