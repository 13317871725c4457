package vm

import (
	"cmp"

	"hindcast/api"
)

func number(n int) api.Val { return api.Val{Kind: api.VInt, N: n} }

func truth(is bool) api.Val {
	if is {
		return api.Val{Kind: api.VBool, N: 1}
	}
	return api.Val{Kind: api.VBool}
}

func text(s string) api.Val { return api.Val{Kind: api.VStr, S: s} }

// demand gives up for a fault, unless it is so.
func demand(is bool, fault api.Fault) {
	if !is {
		panic(fault)
	}
}

// want gives up, unless a value is of a kind.
func want(v api.Val, kind api.ValKind) api.Val {
	demand(v.Kind == kind, api.FaultKind)
	return v
}

// wantCell gives up, unless a value may stand in a cell.
func wantCell(v api.Val) api.Val {
	demand(v.Kind != api.VNone, api.FaultKind)
	return v
}

// binary tells what an instruction makes of two values.
func binary(op api.Op) func(a, b api.Val) api.Val {
	switch op {
	case api.OpAdd:
		return add
	case api.OpSub:
		return func(a, b api.Val) api.Val { return number(want(a, api.VInt).N - want(b, api.VInt).N) }
	case api.OpMul:
		return func(a, b api.Val) api.Val { return number(want(a, api.VInt).N * want(b, api.VInt).N) }
	case api.OpDiv:
		return func(a, b api.Val) api.Val { return number(want(a, api.VInt).N / divisor(b)) }
	case api.OpRem:
		return func(a, b api.Val) api.Val { return number(want(a, api.VInt).N % divisor(b)) }
	case api.OpEq:
		return func(a, b api.Val) api.Val { return truth(a == b) }
	case api.OpNe:
		return func(a, b api.Val) api.Val { return truth(a != b) }
	case api.OpLt:
		return func(a, b api.Val) api.Val { return truth(order(a, b) < 0) }
	case api.OpLe:
		return func(a, b api.Val) api.Val { return truth(order(a, b) <= 0) }
	case api.OpGt:
		return func(a, b api.Val) api.Val { return truth(order(a, b) > 0) }
	}
	return func(a, b api.Val) api.Val { return truth(order(a, b) >= 0) }
}

func add(a, b api.Val) api.Val {
	if a.Kind == api.VInt && b.Kind == api.VInt {
		return number(a.N + b.N)
	}
	s := want(a, api.VStr).S + want(b, api.VStr).S
	demand(len(s) <= api.MaxText, api.FaultText)
	return text(s)
}

func divisor(v api.Val) int {
	n := want(v, api.VInt).N
	demand(n != 0, api.FaultDiv)
	return n
}

// order tells whether a value is below (-1), the same as (0), or above (1) another one.
func order(a, b api.Val) int {
	if a.Kind == api.VInt && b.Kind == api.VInt {
		return cmp.Compare(a.N, b.N)
	}
	return cmp.Compare(want(a, api.VStr).S, want(b, api.VStr).S)
}
