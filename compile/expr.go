package compile

import (
	"hindcast/api"
	"hindcast/types"
)

func (b *builder) exprs(l []api.Expr) {
	for _, e := range l {
		b.expr(e)
	}
}

func (b *builder) expr(e api.Expr) {
	switch {
	case e.Kind == api.EBinary && e.S == "&&":
		b.and(e.Kids[0], e.Kids[1])
	case e.Kind == api.EBinary && e.S == "||":
		b.or(e.Kids[0], e.Kids[1])
	default:
		b.exprs(e.Kids)
		b.behindKids(e)
	}
}

// and asks its second kid only where the first one is true.
func (b *builder) and(first, second api.Expr) {
	b.expr(first)
	no := b.jump(api.OpUnless)
	b.expr(second)
	end := b.jump(api.OpJump)
	no()
	b.put(api.OpBool, 0)
	end()
}

// or asks its second kid only where the first one is false.
func (b *builder) or(first, second api.Expr) {
	b.expr(first)
	no := b.jump(api.OpUnless)
	b.put(api.OpBool, 1)
	end := b.jump(api.OpJump)
	no()
	b.expr(second)
	end()
}

// behindKids puts the one instruction that stands behind the code of an expression's kids.
func (b *builder) behindKids(e api.Expr) {
	switch e.Kind {
	case api.EInt:
		b.put(api.OpInt, e.N)
	case api.EBool:
		b.put(api.OpBool, e.N)
	case api.EStr:
		b.put(api.OpStr, b.text(e.S))
	case api.EName:
		b.put(api.OpLoad, b.slots[e.S])
	case api.ECall:
		b.call(e)
	case api.EUnary:
		b.put(ahead(e.S), 0)
	case api.EBinary:
		b.put(between(e.S), 0)
	case api.EIndex:
		b.put(api.OpIndex, 0)
	case api.EField:
		b.put(api.OpField, b.text(e.S))
	case api.EArray:
		b.put(api.OpArray, len(e.Kids))
	case api.ENew:
		b.put(api.OpNew, b.records[e.S])
	}
}

func (b *builder) call(e api.Expr) {
	switch e.S {
	case "len":
		b.put(api.OpLen, 0)
	case "str":
		b.put(api.OpShow, 0)
	case "array":
		b.put(api.OpFill, 0)
	case "input":
		b.put(api.OpInput, 0)
	case "print":
		b.put(api.OpPrint, len(e.Kids))
	default:
		b.put(api.OpCall, b.funcs[e.S].number)
	}
}

// puts tells whether a call of a function puts a value.
func (b *builder) puts(name string) bool {
	if types.Builtin(name) {
		return name != "print"
	}
	return b.funcs[name].puts
}

func ahead(sign string) api.Op {
	if sign == "-" {
		return api.OpNeg
	}
	return api.OpNot
}

func between(sign string) api.Op {
	switch sign {
	case "+":
		return api.OpAdd
	case "-":
		return api.OpSub
	case "*":
		return api.OpMul
	case "/":
		return api.OpDiv
	case "%":
		return api.OpRem
	case "==":
		return api.OpEq
	case "!=":
		return api.OpNe
	case "<":
		return api.OpLt
	case "<=":
		return api.OpLe
	case ">":
		return api.OpGt
	}
	return api.OpGe
}
