package rtl

import (
	"strconv"
	"strings"
)

// names are those that the operations have in a text.
var names = [...]string{
	Const: "const", Copy: "copy",
	Add: "add", Sub: "sub", Mul: "mul",
	Div: "div", Udiv: "udiv", Rem: "rem", Urem: "urem",
	And: "and", Or: "or", Xor: "xor",
	Shl: "shl", Sar: "sar", Shr: "shr",
	Eq: "eq", Ne: "ne", Lt: "lt", Le: "le", Ult: "ult", Ule: "ule",
	Ext: "ext", Global: "global", Slot: "slot", FuncOf: "func",
	Load: "load", Store: "store", Call: "call", CallAt: "callat", Out: "out",
}

func nameOf(op int) string {
	if exists(op, len(names)) && names[op] != "" {
		return names[op]
	}
	return "op" + strconv.Itoa(op)
}

// Show: an instruction's text, such as "r2 = load4s [r1 + 8] secret".
func (x Ins) Show() string {
	text := nameOf(x.Op) + x.details()
	if x.Dst != none {
		text = register(x.Dst) + " = " + text
	}
	if x.Secret {
		text += " secret"
	}
	return text
}

// details: what stands behind the operation's name.
func (x Ins) details() string {
	switch x.Op {
	case Ext:
		return x.width() + " " + x.A.text()
	case Global, Slot:
		return " " + strconv.Itoa(x.Ref) + offset(x.Off)
	case FuncOf:
		return " " + strconv.Itoa(x.Ref)
	case Load:
		return x.width() + " [" + x.A.text() + offset(x.Off) + "]"
	case Store:
		return strconv.Itoa(x.Size) + " [" + x.A.text() + offset(x.Off) + "], " + x.B.text()
	case Call:
		return " " + strconv.Itoa(x.Ref) + "(" + list(x.Args) + ")"
	case CallAt:
		return " " + x.A.text() + "(" + list(x.Args) + ")"
	}
	return " " + list(x.Reads())
}

// width: how many bytes are extended, and how.
func (x Ins) width() string {
	if x.Signed {
		return strconv.Itoa(x.Size) + "s"
	}
	return strconv.Itoa(x.Size) + "u"
}

func register(r int) string { return "r" + strconv.Itoa(r) }

func (a Arg) text() string {
	if a.Reg == none {
		return strconv.FormatInt(a.Num, 10)
	}
	return register(a.Reg)
}

func list(args []Arg) string {
	texts := make([]string, len(args))
	for i, a := range args {
		texts[i] = a.text()
	}
	return strings.Join(texts, ", ")
}

// offset: what is added to a place. The sign is cut off the text, because the least number has no opposite.
func offset(n int64) string {
	text := strconv.FormatInt(n, 10)
	switch {
	case n > 0:
		return " + " + text
	case n < 0:
		return " - " + text[1:]
	}
	return ""
}

// text: of a block's end.
func (t Term) text() string {
	switch t.Kind {
	case Jump:
		return "jump " + strconv.Itoa(t.To)
	case Branch:
		return "branch " + nameOf(t.Op) + " " + list(t.Reads()) + " to " + strconv.Itoa(t.To) + " else " + strconv.Itoa(t.Else)
	case Ret:
		return "ret " + t.A.text()
	}
	return "end" + strconv.Itoa(t.Kind)
}

// Show: a function's text, a line for each instruction.
func (f Func) Show() string {
	var text strings.Builder
	text.WriteString("function " + f.Name + ": " + strconv.Itoa(f.Params) + " parameters, " + strconv.Itoa(f.Regs) + " registers\n")
	for i, secret := range f.Secret {
		if secret {
			text.WriteString("secret " + register(i) + "\n")
		}
	}
	for i, size := range f.Slots {
		text.WriteString("slot " + strconv.Itoa(i) + " of " + strconv.Itoa(size) + " bytes\n")
	}
	for i, block := range f.Blocks {
		text.WriteString("block " + strconv.Itoa(i) + ":\n")
		for _, x := range block.Ins {
			text.WriteString("\t" + x.Show() + "\n")
		}
		text.WriteString("\t" + block.Term.text() + "\n")
	}
	return text.String()
}
