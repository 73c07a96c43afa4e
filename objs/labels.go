package objs

import (
	"math"

	"merlon/api"
	"merlon/ctype"
)

// Labels: of each byte of a type, whether it is a byte of a secret integer. Of a type beyond all sizes that the document promises anything for there are none.
func Labels(t *ctype.Table, x api.Type) []bool {
	size := t.Size(x)
	if size <= 0 || size > math.MaxInt32 {
		return nil
	}
	labels := make([]bool, size)
	mark(labels, t, x)
	return labels
}

// mark sets the labels of the bytes of secret integers in a type's bytes, which are public so far.
func mark(labels []bool, t *ctype.Table, x api.Type) {
	switch x.Kind {
	case api.Int:
		for i := range labels {
			labels[i] = x.Secret
		}
	case api.Array:
		if x.Len > 0 {
			n := len(labels) / x.Len
			mark(labels[:n], t, *x.Elem)
			repeat(labels, n)
		}
	case api.Struct:
		for _, f := range t.Fields(x.Num) {
			mark(within(labels, f.At, t.Size(f.Type)), t, f.Type)
		}
	}
}

// repeat sets all labels to the first n again and again.
func repeat(labels []bool, n int) {
	for done := n; 0 < done && done < len(labels); done *= 2 {
		copy(labels[done:], labels[:done])
	}
}

// within are n labels from at on, or fewer: a field whose size isn't that of any type may be laid out beyond its struct.
func within(labels []bool, at, n int) []bool {
	from := min(max(at, 0), len(labels))
	return labels[from:min(from+max(n, 0), len(labels))]
}
