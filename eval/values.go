package eval

import (
	"cmp"

	"hindcast/api"
)

func number(n int) api.Val { return api.Val{Kind: api.VInt, N: n} }

func truth(is bool) api.Val {
	if is {
		return api.Val{Kind: api.VBool, N: 1}
	}
	return api.Val{Kind: api.VBool}
}

func text(s string) api.Val { return api.Val{Kind: api.VStr, S: s} }

// demand gives up for an error, unless it is so.
func demand(is bool, err api.Errno) {
	if !is {
		panic(err)
	}
}

// want gives up, unless a value is of a kind.
func want(v api.Val, kind api.ValKind) api.Val {
	demand(v.Kind == kind, api.ErrType)
	return v
}

// isPlain tells whether a value is a number, a truth or a text.
func isPlain(v api.Val) bool {
	return v.Kind == api.VInt || v.Kind == api.VBool || v.Kind == api.VStr
}

// unary tells what a sign ahead makes of a value.
func unary(sign string, v api.Val) api.Val {
	if sign == "-" {
		return number(-want(v, api.VInt).N)
	}
	return truth(want(v, api.VBool).N == 0)
}

// binary tells what a sign between makes of two values.
func binary(sign string, a, b api.Val) api.Val {
	switch sign {
	case "+":
		return add(a, b)
	case "==":
		return truth(areSame(a, b))
	case "!=":
		return truth(!areSame(a, b))
	case "<":
		return truth(order(a, b) < 0)
	case "<=":
		return truth(order(a, b) <= 0)
	case ">":
		return truth(order(a, b) > 0)
	case ">=":
		return truth(order(a, b) >= 0)
	}
	return number(reckon(sign, want(a, api.VInt).N, want(b, api.VInt).N))
}

func add(a, b api.Val) api.Val {
	if a.Kind == api.VInt && b.Kind == api.VInt {
		return number(a.N + b.N)
	}
	s := want(a, api.VStr).S + want(b, api.VStr).S
	demand(len(s) <= api.MaxText, api.ErrFault)
	return text(s)
}

func areSame(a, b api.Val) bool {
	demand(isPlain(a) && a.Kind == b.Kind, api.ErrType)
	return a == b
}

// order tells whether a value is below (-1), the same as (0), or above (1) another one.
func order(a, b api.Val) int {
	if a.Kind == api.VInt && b.Kind == api.VInt {
		return cmp.Compare(a.N, b.N)
	}
	return cmp.Compare(want(a, api.VStr).S, want(b, api.VStr).S)
}

// reckon tells what a sign that is for numbers alone makes of two.
func reckon(sign string, a, b int) int {
	switch sign {
	case "-":
		return a - b
	case "*":
		return a * b
	}
	demand(b != 0, api.ErrFault)
	if sign == "/" {
		return a / b
	}
	return a % b
}
