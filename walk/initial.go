package walk

import (
	"merlon/api"
	"merlon/check"
	"merlon/ctype"
	"merlon/objs"
)

// Bytes: of each global its first bytes: those of its initial value, or the next ones of the input, 0 where there are no more; pointers are 0.
func Bytes(p *check.Prog, in api.Input) [][]byte {
	if p == nil {
		return nil
	}
	all := make([][]byte, len(p.Globals))
	for i, g := range p.Globals {
		all[i] = make([]byte, p.Table.Size(g.Type))
		if g.Init {
			copy(all[i], g.Data)
			continue
		}
		scalars(p.Table, g.Type, 0, func(t api.Type, at int) {
			if t.Kind == api.Int {
				take(all[i][at:at+t.Size], sourceOf(t, &in))
			}
		})
	}
	return all
}

// sourceOf: the bytes that are left for integers of a type.
func sourceOf(t api.Type, in *api.Input) *[]byte {
	if t.Secret {
		return &in.Secret
	}
	return &in.Public
}

// take moves bytes from the front of what is left.
func take(to []byte, left *[]byte) {
	n := copy(to, *left)
	*left = (*left)[n:]
}

// scalars goes through all integers and pointers of a type that stands at an offset, in order.
func scalars(t *ctype.Table, x api.Type, at int, each func(t api.Type, at int)) {
	switch x.Kind {
	case api.Int, api.Ptr:
		each(x, at)
	case api.Array:
		size := t.Size(*x.Elem)
		for i := range x.Len {
			scalars(t, *x.Elem, at+i*size, each)
		}
	case api.Struct:
		for _, f := range t.Fields(x.Num) {
			scalars(t, f.Type, at+f.At, each)
		}
	}
}

// startMemory is the memory at the beginning of a run: an object for each global, in order. Only integers and pointers are stored, so that the bytes between fields contain nothing.
func startMemory(p *check.Prog, in api.Input) *objs.Memory {
	m := objs.New()
	for i, bytes := range Bytes(p, in) {
		g := p.Globals[i]
		start := location(m.Make(objs.Labels(p.Table, g.Type)))
		scalars(p.Table, g.Type, 0, func(t api.Type, at int) {
			// Of a pointer this is null.
			m.Store(behind(start, at), t, objs.Value{Num: littleEndian(bytes[at : at+t.Size])})
		})
		for _, f := range g.Funcs {
			m.Store(behind(start, f.At), ctype.PtrTo(ctype.VoidType()), function(f.Func))
		}
	}
	return m
}

// behind is the location so many bytes behind another one.
func behind(p objs.Ptr, n int) objs.Ptr {
	p.Off += int64(n)
	return p
}

// littleEndian: the number whose bytes these are, the lowest first.
func littleEndian(bytes []byte) int64 {
	n := int64(0)
	for i, b := range bytes {
		n |= int64(b) << (8 * i)
	}
	return n
}
