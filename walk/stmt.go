package walk

import (
	"merlon/api"
	"merlon/arith"
	"merlon/check"
	"merlon/parse"
)

// A jump is where a statement leads.
type jump int

const (
	onward jump = iota // to what stands behind it
	breaks
	continues
	leaves // the function: by a return, or because the run has ended
)

func (r *run) stmt(s *check.Stmt) jump {
	if !r.step(1) {
		return leaves
	}
	switch s.Kind {
	case parse.Do:
		r.value(s.E)
	case parse.Let:
		r.let(s)
	case parse.Block:
		return r.stmts(s.Kids)
	case parse.If:
		return r.branch(s)
	case parse.While:
		return r.while(s)
	case parse.Until:
		return r.until(s)
	case parse.For:
		return r.forLoop(s)
	case parse.Switch:
		return r.switched(s)
	case parse.Break:
		return breaks
	case parse.Continue:
		return continues
	case parse.Return:
		if s.E != nil {
			r.frame.result = r.value(s.E)
		}
		return leaves
	}
	return onward
}

func (r *run) stmts(list []*check.Stmt) jump {
	for _, s := range list {
		if to := r.stmt(s); to != onward {
			return to
		}
	}
	return onward
}

// let: a declaration. The initial value of a struct is a copy into it.
func (r *run) let(s *check.Stmt) {
	if s.E == nil {
		r.forget(s.Local)
		return
	}
	v := r.value(s.E)
	t := r.frame.fn.Locals[s.Local].Type
	if t.Kind != api.Struct {
		r.store(r.frame.place(s.Local), t, v)
	}
}

func (r *run) branch(s *check.Stmt) jump {
	if r.test(s.E) {
		return r.stmt(s.Kids[0])
	}
	return r.stmts(s.Kids[1:])
}

// round: a loop's statement: where it leads, and whether the loop goes on.
func (r *run) round(s *check.Stmt) (jump, bool) {
	to := r.stmt(s)
	if to == leaves {
		return leaves, false
	}
	return onward, to != breaks
}

func (r *run) while(s *check.Stmt) jump {
	for r.test(s.E) {
		if to, goesOn := r.round(s.Kids[0]); !goesOn {
			return to
		}
	}
	return onward
}

func (r *run) until(s *check.Stmt) jump {
	for {
		if to, goesOn := r.round(s.Kids[0]); !goesOn {
			return to
		}
		if !r.test(s.E) {
			return onward
		}
	}
}

func (r *run) forLoop(s *check.Stmt) jump {
	r.stmt(s.Kids[0])
	for r.step(1) && (s.E == nil || r.test(s.E)) {
		if to, goesOn := r.round(s.Kids[1]); !goesOn {
			return to
		}
		if s.Step != nil {
			r.value(s.Step)
		}
	}
	return onward
}

func (r *run) switched(s *check.Stmt) jump {
	v := r.value(s.E).Num
	for _, c := range s.Cases[r.chosen(s.Cases, v):] {
		switch to := r.stmts(c.Body); to {
		case breaks:
			return onward
		case continues, leaves:
			return to
		}
	}
	return onward
}

// chosen: the first group to be executed: that of the value, otherwise the default's; behind all groups, if there is none. The values are tested in order.
func (r *run) chosen(cases []check.Case, v int64) int {
	start := len(cases)
	for i, c := range cases {
		for _, want := range c.Values {
			r.step(1)
			r.show(api.LeakBranch, arith.Bool(v == want), 0)
			if v == want {
				return i
			}
		}
		if c.Default {
			start = i
		}
	}
	return start
}
