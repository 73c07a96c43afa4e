package walk

import (
	"merlon/api"
	"merlon/check"
	"merlon/ctype"
	"merlon/objs"
)

// A frame is what a call in progress has of its own.
type frame struct {
	fn     *check.Fn
	locals []local
	result objs.Value // 0 and null until something is returned
}

// A local is an object, or is kept here.
type local struct {
	inMemory bool
	obj      int
	value    objs.Value
	set      bool
}

// place is the place of a local.
func (f *frame) place(i int) place {
	l := &f.locals[i]
	if l.inMemory {
		return place{p: location(l.obj)}
	}
	return place{local: l}
}

// open makes the objects of a call.
func (r *run) open(fn *check.Fn) *frame {
	f := &frame{fn: fn, locals: make([]local, len(fn.Locals))}
	for i, v := range fn.Locals {
		if v.Memory {
			f.locals[i] = local{inMemory: true, obj: r.memory.Make(objs.Labels(r.prog.Table, v.Type))}
		}
	}
	return f
}

// shut drops them.
func (r *run) shut(f *frame) {
	for _, l := range f.locals {
		if l.inMemory {
			r.memory.Drop(l.obj)
		}
	}
}

// forget makes a local uninitialized.
func (r *run) forget(i int) {
	l := &r.frame.locals[i]
	if l.inMemory {
		r.memory.Forget(l.obj)
		return
	}
	l.set = false
}

// call calls a function: its result, 0 or null without a return.
func (r *run) call(i int, args []objs.Value) objs.Value {
	if !r.step(1) {
		return objs.Value{}
	}
	leave, fits := r.enter()
	defer leave()
	if !fits {
		r.end(api.ErrLimit)
		return objs.Value{}
	}
	caller, callee := r.frame, r.open(&r.prog.Funcs[i])
	r.frame = callee
	for k, a := range args {
		r.store(callee.place(k), callee.fn.Locals[k].Type, a)
	}
	r.stmt(callee.fn.Body)
	r.shut(callee)
	r.frame = caller
	return callee.result
}

func (r *run) values(list []*check.Node) []objs.Value {
	var all []objs.Value
	for _, n := range list {
		all = append(all, r.value(n))
	}
	return all
}

// callFunc calls a function by its name, which takes a step of its own, as each expression does.
func (r *run) callFunc(n *check.Node) objs.Value {
	r.step(1)
	return r.call(n.Ref, r.values(n.Kids))
}

// callPtr calls what a pointer points to.
func (r *run) callPtr(n *check.Node) objs.Value {
	f := n.Kids[0]
	p := r.value(f).P
	if !r.isFunction(p, *f.Type.Elem) {
		r.need(false)
		return objs.Value{}
	}
	r.show(api.LeakCall, int64(p.Obj), 0)
	return r.call(p.Obj, r.values(n.Kids[1:]))
}

// isFunction: whether a pointer points to a function of type t.
func (r *run) isFunction(p objs.Ptr, t api.Type) bool {
	return p.Kind == toFunction && ctype.Same(r.prog.Funcs[p.Obj].Type, t)
}
