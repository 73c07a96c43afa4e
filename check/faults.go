package check

import "merlon/api"

// faults keeps the first fault that is noted. Whoever notes one goes on with what he has: no later fault counts.
type faults struct {
	first api.Fault
}

func (f *faults) fail(kind api.Errno, at int) {
	if !f.failed() {
		f.first = api.Fault{Kind: kind, At: at}
	}
}

func (f *faults) failed() bool { return f.first.Kind != api.OK }

// bad notes a fault; what it answers stands for the expression that has it: it is no place, and no rule takes its type.
func (f *faults) bad(kind api.Errno, at int) *Node {
	f.fail(kind, at)
	return &Node{At: at, Type: api.Type{Kind: api.Void}}
}
