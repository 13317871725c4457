package types

import (
	"strings"

	"hindcast/api"
)

// scope is what the names in an expression stand for.
type scope struct {
	records map[string]api.Record
	funcs   map[string]api.Func
	vars    map[string]api.Param
}

func newScope() *scope {
	return &scope{map[string]api.Record{}, map[string]api.Func{}, map[string]api.Param{}}
}

// scopeOf takes a program's records and functions as they are.
func scopeOf(p api.Program, vars []api.Param) *scope {
	s := newScope()
	for _, r := range p.Records {
		putFirst(s.records, r.Name, r)
	}
	for _, f := range p.Funcs {
		putFirst(s.funcs, f.Name, f)
	}
	for _, v := range vars {
		s.vars[v.Name] = v
	}
	return s
}

func putFirst[T any](m map[string]T, name string, x T) {
	if _, there := m[name]; !there {
		m[name] = x
	}
}

// isType tells whether there is such a type.
func (s *scope) isType(t string) bool {
	for element(t) != none {
		t = element(t)
	}
	_, there := s.records[t]
	return there || isPlain(t)
}

func isPlain(t string) bool { return t == tInt || t == tBool || t == tStr }

func arrayOf(t string) string { return "[" + t + "]" }

// element tells T of [T], none of what is no array's type.
func element(t string) string {
	inner, opened := strings.CutPrefix(t, "[")
	inner, closed := strings.CutSuffix(inner, "]")
	if !opened || !closed {
		return none
	}
	return inner
}

// typeOf tells the type of an expression that may be told: none, if it is a call without a result.
func (s *scope) typeOf(e api.Expr) string {
	switch e.Kind {
	case api.EInt:
		return tInt
	case api.EBool:
		return tBool
	case api.EStr:
		return tStr
	case api.EName:
		v, there := s.vars[e.S]
		demand(there, e.Line, api.ErrName)
		return v.Type
	case api.ECall:
		return s.call(e)
	case api.ENew:
		return s.record(e)
	case api.EField:
		return s.field(e)
	}
	return s.ofKids(e)
}

// ofKids tells the type of an expression that hangs on its kids' types alone, and asks for them only when it has them all.
func (s *scope) ofKids(e api.Expr) string {
	kids := make([]string, len(e.Kids))
	for i, k := range e.Kids {
		kids[i] = s.typeOf(k)
	}
	t := none
	switch e.Kind {
	case api.EUnary:
		t = ahead(e.S, kids[0])
	case api.EBinary:
		t = between(e.S, kids[0], kids[1])
	case api.EIndex:
		t = indexed(kids[0], kids[1])
	case api.EArray:
		t = listed(kids)
	}
	demand(t != none, e.Line, api.ErrType)
	return t
}

// ahead tells the type of an expression with a sign ahead: none, if the kid may not stand there. So do those below.
func ahead(sign, kid string) string {
	want := tInt
	if sign == "!" {
		want = tBool
	}
	if kid != want {
		return none
	}
	return want
}

func between(sign, left, right string) string {
	if left != right {
		return none
	}
	number, truth, text := left == tInt, left == tBool, left == tStr
	switch sign {
	case "+":
		return when(number || text, left)
	case "-", "*", "/", "%":
		return when(number, tInt)
	case "<", "<=", ">", ">=":
		return when(number || text, tBool)
	case "==", "!=":
		return when(number || truth || text, tBool)
	}
	return when(truth, tBool)
}

func when(is bool, t string) string {
	if !is {
		return none
	}
	return t
}

func indexed(array, i string) string { return when(i == tInt, element(array)) }

func listed(kids []string) string {
	for _, k := range kids {
		if k == none || k != kids[0] {
			return none
		}
	}
	return arrayOf(kids[0])
}

func (s *scope) field(e api.Expr) string {
	t := s.typeOf(e.Kids[0])
	r, there := s.records[t]
	demand(there && t != none, e.Line, api.ErrType)
	for _, f := range r.Fields {
		if f.Name == e.S {
			return f.Type
		}
	}
	panic(wrong{e.Line, api.ErrName})
}

func (s *scope) record(e api.Expr) string {
	r, there := s.records[e.S]
	demand(there, e.Line, api.ErrName)
	s.kidsAre(e, r.Fields)
	return e.S
}

func (s *scope) call(e api.Expr) string {
	f, there := s.funcs[e.S]
	if !there {
		return s.callBuiltin(e)
	}
	s.kidsAre(e, f.Params)
	return f.Result
}

// kidsAre demands a kid of each field's, or parameter's, type.
func (s *scope) kidsAre(e api.Expr, l []api.Param) {
	demand(len(e.Kids) == len(l), e.Line, api.ErrType)
	for i, k := range e.Kids {
		demand(s.kid(e, k) == l[i].Type, e.Line, api.ErrType)
	}
}

// kid tells a kid's type, and demands that it has one.
func (s *scope) kid(e, kid api.Expr) string {
	t := s.typeOf(kid)
	demand(t != none, e.Line, api.ErrType)
	return t
}

func (s *scope) callBuiltin(e api.Expr) string {
	b, there := findBuiltin(e.S)
	demand(there, e.Line, api.ErrName)
	demand(b.least <= len(e.Kids) && len(e.Kids) <= b.most, e.Line, api.ErrType)
	last := none
	for i, k := range e.Kids {
		last = s.kid(e, k)
		demand(takes(b.name, i, last), e.Line, api.ErrType)
	}
	if b.name == "array" {
		return arrayOf(last)
	}
	return b.result
}

// takes tells whether a kid of a function that is built in may have a type.
func takes(name string, i int, t string) bool {
	switch {
	case name == "len":
		return t == tStr || element(t) != none
	case name == "str":
		return isPlain(t)
	case name == "array" && i == 0:
		return t == tInt
	}
	return true
}
