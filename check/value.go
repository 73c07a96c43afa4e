package check

import (
	"merlon/api"
	"merlon/arith"
)

// mostNodes is more than the nodes of all expressions of a source. A node that was put together by hand may stand within itself: its number would take no end.
const mostNodes = 16 * api.MaxNodes

// Value: a constant's number; false: it is none.
func Value(e *Node) (int64, bool) {
	r := reckoner{left: mostNodes}
	return r.number(e)
}

// A reckoner finds the number of a constant.
type reckoner struct {
	left int // how many nodes it may still look at
}

func (r *reckoner) number(e *Node) (int64, bool) {
	if e == nil || r.left == 0 {
		return 0, false
	}
	r.left--
	switch e.Op {
	case Const:
		return e.Num, true
	case Conv, Truth:
		return r.one(e)
	case Bin, Cmp:
		return r.two(e)
	}
	return 0, false
}

// one: the number of a node with one operand.
func (r *reckoner) one(e *Node) (int64, bool) {
	if len(e.Kids) != 1 {
		return 0, false
	}
	n, known := r.number(e.Kids[0])
	if !known {
		return 0, false
	}
	if e.Op == Conv {
		return arith.Fit(e.Type, n), true
	}
	return arith.Bool((n == 0) == (e.Text == "!")), true
}

// two: the number of a node with two operands.
func (r *reckoner) two(e *Node) (int64, bool) {
	if len(e.Kids) != 2 {
		return 0, false
	}
	a, known := r.number(e.Kids[0])
	if !known {
		return 0, false
	}
	b, known := r.number(e.Kids[1])
	if !known {
		return 0, false
	}
	if e.Op == Bin {
		return arith.Bin(e.Text, e.Type, a, b)
	}
	return arith.Cmp(e.Text, e.Kids[0].Type, a, b), true
}
