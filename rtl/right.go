package rtl

import "merlon/api"

// Right: OK if a program is valid; otherwise, and for nil, ErrBroken.
func Right(p *Prog) api.Errno {
	if p == nil || !rightMain(p) || !rightData(p) {
		return api.ErrBroken
	}
	for i := range p.Funcs {
		if !rightFunc(p, &p.Funcs[i]) {
			return api.ErrBroken
		}
	}
	return api.OK
}

// exists: whether there is number n, where so many are numbered from 0.
func exists(n, many int) bool { return 0 <= n && n < many }

func rightMain(p *Prog) bool {
	return exists(p.Main, len(p.Funcs)) && p.Funcs[p.Main].Params == 0
}

// rightData: whether the globals have their places and their parts.
func rightData(p *Prog) bool {
	if p.Data < 0 || p.Data > api.MaxData {
		return false
	}
	for _, g := range p.Globals {
		if g.At < 0 || g.Size < 0 || g.Size > p.Data-g.At || !rightParts(g, len(p.Funcs)) {
			return false
		}
	}
	return true
}

// rightParts: whether a global's parts are as long as it is. They are taken from its size, since the sum of what any part says may overflow.
func rightParts(g GlobalVar, funcs int) bool {
	left := g.Size
	for _, part := range g.Parts {
		n, ok := length(part, funcs)
		if !ok || n < 0 || n > left {
			return false
		}
		left -= n
	}
	return left == 0
}

// length: how many bytes a part says that it has; false: there is no such part.
func length(part Part, funcs int) (int, bool) {
	switch part.Kind {
	case Plain:
		return len(part.Data), true
	case FuncAt:
		return 8, exists(part.N, funcs)
	case Public, Hidden:
		return part.N, true
	}
	return 0, false
}

func rightFunc(p *Prog, f *Func) bool {
	if f.Params < 0 || f.Params > api.MaxParams || f.Params > f.Regs || len(f.Secret) != f.Params || len(f.Blocks) == 0 {
		return false
	}
	for _, block := range f.Blocks {
		for _, x := range block.Ins {
			if !rightIns(p, f, x) {
				return false
			}
		}
		if !rightTerm(f, block.Term) {
			return false
		}
	}
	return true
}

func rightIns(p *Prog, f *Func, x Ins) bool {
	return Const <= x.Op && x.Op <= Out && rightResult(x, f.Regs) && rightArgs(x.Reads(), f.Regs) && rightUse(p, f, x)
}

// rightResult: whether an instruction has a result where it must, and none where it may not.
func rightResult(x Ins, regs int) bool {
	switch x.Op {
	case Store, Out:
		return x.Dst == none
	case Call, CallAt:
		return x.Dst == none || exists(x.Dst, regs)
	}
	return exists(x.Dst, regs)
}

func rightArgs(args []Arg, regs int) bool {
	for _, a := range args {
		if a.Reg != none && !exists(a.Reg, regs) {
			return false
		}
	}
	return true
}

// rightUse: whether an operation's size, what it refers to, and the number of its arguments may be.
func rightUse(p *Prog, f *Func, x Ins) bool {
	switch x.Op {
	case Ext, Load, Store:
		return x.Size == 1 || x.Size == 2 || x.Size == 4 || x.Size == 8
	case Global:
		return exists(x.Ref, len(p.Globals))
	case Slot:
		return exists(x.Ref, len(f.Slots))
	case FuncOf:
		return exists(x.Ref, len(p.Funcs))
	case Call:
		return exists(x.Ref, len(p.Funcs)) && len(x.Args) == p.Funcs[x.Ref].Params
	case CallAt:
		return len(x.Args) <= api.MaxParams
	}
	return true
}

func rightTerm(f *Func, t Term) bool {
	if t.Kind < Jump || t.Kind > Ret || t.Kind == Branch && (t.Op < Eq || t.Op > Ule) {
		return false
	}
	for _, to := range t.Next() {
		if !exists(to, len(f.Blocks)) {
			return false
		}
	}
	return rightArgs(t.Reads(), f.Regs)
}
