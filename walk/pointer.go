package walk

import (
	"merlon/arith"
	"merlon/ctype"
	"merlon/objs"
)

func isNull(p objs.Ptr) bool { return p.Kind == 0 }

// together: whether two pointers point into the same object, which hasn't been dropped.
func (r *run) together(p, q objs.Ptr) bool {
	return p.Kind == toLocation && q.Kind == toLocation && p.Obj == q.Obj && r.memory.Alive(p) && r.memory.Alive(q)
}

// comparePtrs: 1 if a comparison of two pointers holds, otherwise 0.
func (r *run) comparePtrs(op string, p, q objs.Ptr) int64 {
	asksEqual := op == "==" || op == "!="
	if asksEqual && (isNull(p) || isNull(q)) {
		r.need(r.memory.Alive(p) && r.memory.Alive(q))
		return arith.Bool((isNull(p) == isNull(q)) == (op == "=="))
	}
	r.need(r.together(p, q))
	return arith.Cmp(op, ctype.IntOf(8, true), p.Off, q.Off)
}

// difference: how many elements of a size lie between two pointers.
func (r *run) difference(p, q objs.Ptr, size int64) int64 {
	n := p.Off - q.Off
	r.need(r.together(p, q) && n%size == 0)
	return n / size
}
