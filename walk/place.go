package walk

import (
	"merlon/api"
	"merlon/check"
	"merlon/objs"
)

// Kinds of pointers that aren't null.
const (
	toLocation = 1
	toFunction = 2
)

// location is the first one of an object.
func location(obj int) objs.Ptr { return objs.Ptr{Kind: toLocation, Obj: obj} }

func number(n int64) objs.Value { return objs.Value{Num: n} }

func pointer(p objs.Ptr) objs.Value { return objs.Value{P: p, IsPtr: true} }

func function(i int) objs.Value { return pointer(objs.Ptr{Kind: toFunction, Obj: i}) }

// A place is what an lvalue denotes: what a pointer points to, or a local that is kept separately.
type place struct {
	p     objs.Ptr
	local *local
}

func (r *run) place(n *check.Node) place {
	if !r.step(1) {
		return place{}
	}
	switch n.Op {
	case check.Global:
		return place{p: location(n.Ref)}
	case check.Local:
		return r.frame.place(n.Ref)
	case check.Deref:
		return place{p: r.value(n.Kids[0]).P}
	case check.Field:
		return place{p: r.advance(r.place(n.Kids[0]).p, n.Num)}
	}
	return place{}
}

// advance moves a pointer by n bytes.
func (r *run) advance(p objs.Ptr, n int64) objs.Ptr {
	q, ok := r.memory.Add(p, n)
	r.need(ok)
	return q
}

// move moves a pointer by n elements of a size.
func (r *run) move(p objs.Ptr, n, size int64) objs.Ptr {
	if n < -api.MaxData || n > api.MaxData {
		r.need(false)
		return objs.Ptr{}
	}
	return r.advance(p, n*size)
}

// load: what is stored at an lvalue's place.
func (r *run) load(lvalue *check.Node, from place) objs.Value {
	if from.local != nil {
		r.need(from.local.set)
		return from.local.value
	}
	r.access(api.LeakLoad, from.p)
	v, ok := r.memory.Load(from.p, lvalue.Type)
	r.need(ok)
	return v
}

// store stores a value at a place of type t.
func (r *run) store(to place, t api.Type, v objs.Value) {
	if to.local != nil {
		to.local.value = v
		to.local.set = true
		return
	}
	r.access(api.LeakStore, to.p)
	r.need(r.memory.Store(to.p, t, v))
}

// access shows where memory is read or written. A pointer that is no location has no offset, and null no number either.
func (r *run) access(kind int, p objs.Ptr) { r.show(kind, int64(p.Obj), p.Off) }
