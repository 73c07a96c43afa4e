package check

import (
	"slices"

	"merlon/api"
	"merlon/ctype"
	"merlon/parse"
)

func isInt(t api.Type) bool { return t.Kind == api.Int }

func isPtr(t api.Type) bool { return t.Kind == api.Ptr }

// isScalar: may a parameter have that type?
func isScalar(t api.Type) bool { return isInt(t) || isPtr(t) }

// isResult: may a function have a result of that type?
func isResult(t api.Type) bool { return isScalar(t) || t.Kind == api.Void }

// pointsToFunc: whether t is a pointer to functions.
func pointsToFunc(t api.Type) bool { return isPtr(t) && t.Elem.Kind == api.Func }

// intType: int, which is secret or not.
func intType(secret bool) api.Type { return withSecret(ctype.IntOf(4, true), secret) }

// longType: long, signed or not, secret or not.
func longType(signed, secret bool) api.Type { return withSecret(ctype.IntOf(8, signed), secret) }

// withSecret: an integer type that is secret also if the condition holds.
func withSecret(t api.Type, secret bool) api.Type {
	t.Secret = t.Secret || secret
	return t
}

// typeOf: the type that stands there.
func (c *checker) typeOf(x parse.TypeExpr) api.Type {
	t := c.specType(x.Spec)
	for range x.Stars {
		t = ctype.PtrTo(t)
	}
	if x.IsFn {
		t = ctype.PtrTo(c.funcType(t, x))
	}
	for _, n := range slices.Backward(x.Dims) {
		t = ctype.ArrayOf(t, n)
	}
	return t
}

func (c *checker) specType(s parse.Spec) api.Type {
	switch s.Word {
	case "struct":
		return c.structType(s)
	case "void":
		c.neverSecret(s)
		return ctype.VoidType()
	}
	return withSecret(ctype.IntOf(sizeOfWord(s.Word), !s.Unsigned), s.Secret)
}

func (c *checker) structType(s parse.Spec) api.Type {
	n, found := c.numbers[s.Struct]
	if !found {
		c.fail(api.ErrName, s.At)
		return ctype.VoidType()
	}
	c.neverSecret(s)
	return api.Type{Kind: api.Struct, Num: n}
}

func (c *checker) neverSecret(s parse.Spec) {
	if s.Secret {
		c.fail(api.ErrType, s.At)
	}
}

// sizeOfWord: how many bytes the integers have that a word stands for.
func sizeOfWord(word string) int {
	switch word {
	case "char":
		return 1
	case "short":
		return 2
	case "int":
		return 4
	}
	return 8
}

// funcType: the type of the functions to which x points, with that result.
func (c *checker) funcType(ret api.Type, x parse.TypeExpr) api.Type {
	var params []api.Type
	for _, p := range x.Fn {
		t := c.typeOf(p)
		if !isScalar(t) {
			c.fail(api.ErrType, p.Spec.At)
		}
		params = append(params, t)
	}
	if !isResult(ret) {
		c.fail(api.ErrType, x.Spec.At)
	}
	return api.Type{Kind: api.Func, Params: params, Ret: &ret}
}
