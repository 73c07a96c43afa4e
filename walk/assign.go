package walk

import (
	"merlon/api"
	"merlon/arith"
	"merlon/check"
	"merlon/objs"
)

func (r *run) assign(n *check.Node) objs.Value {
	to := r.place(n.Kids[0])
	v := r.value(n.Kids[1])
	r.store(to, n.Kids[0].Type, v)
	return v
}

// assignOp: an assignment with an operator, which is reckoned in type Via.
func (r *run) assignOp(n *check.Node) objs.Value {
	t := n.Kids[0].Type
	to := r.place(n.Kids[0])
	old := r.load(n.Kids[0], to)
	by := r.value(n.Kids[1]).Num
	var v objs.Value
	if t.Kind == api.Ptr {
		v = pointer(r.move(old.P, by, n.Num))
	} else {
		v = number(arith.Fit(t, r.reckon(n.Text, n.Via, arith.Fit(n.Via, old.Num), by)))
	}
	r.store(to, t, v)
	return v
}

// increment: ++ or --. Of a pointer n's Num is the size of the element by which it moves.
func (r *run) increment(n *check.Node) objs.Value {
	t := n.Kids[0].Type
	to := r.place(n.Kids[0])
	old := r.load(n.Kids[0], to)
	var v objs.Value
	if t.Kind == api.Ptr {
		v = pointer(r.move(old.P, 1, n.Num))
	} else {
		v = number(arith.Fit(t, old.Num+n.Num))
	}
	r.store(to, t, v)
	if n.Text == "post" {
		return old
	}
	return v
}

// copyTo: a struct that becomes a copy of another one. The read is shown first.
func (r *run) copyTo(n *check.Node) objs.Value {
	to := r.place(n.Kids[0]).p
	from := r.place(n.Kids[1]).p
	if r.step(int(n.Num)) {
		r.access(api.LeakLoad, from)
		r.access(api.LeakStore, to)
		r.need(r.memory.Copy(to, from, int(n.Num)))
	}
	return objs.Value{}
}
