package eval

import (
	"bytes"
	"fmt"
	"math/big"
	"slices"
	"strconv"
	"testing"

	"hindcast/api"
	"hindcast/heap"
	"hindcast/lex"
	"hindcast/syntax"
)

func num(n int) api.Val                  { return api.Val{Kind: api.VInt, N: n} }
func bit(n int) api.Val                  { return api.Val{Kind: api.VBool, N: n} }
func txt(s string) api.Val               { return api.Val{Kind: api.VStr, S: s} }
func ref(n int) api.Val                  { return api.Val{Kind: api.VRef, N: n} }
func named(n string, v api.Val) api.Bind { return api.Bind{Name: n, Value: v} }

var none api.Val

func obj(tag string, cells ...api.Val) api.Obj { return api.Obj{Tag: tag, Cells: cells} }

func shape(name string, fields ...string) api.Shape { return api.Shape{Name: name, Fields: fields} }

func expect[T comparable](t *testing.T, what string, got, want T) {
	t.Helper()
	if got != want {
		t.Errorf("%.400s:\n got %.600v\nwant %.600v", what, got, want)
	}
}

// shown tells what is told as a text, in which nil and the empty list are the same.
func shown(x any) string { return fmt.Sprintf("%+v", x) }

// spot is where an expression is reckoned.
type spot struct {
	vars    []api.Bind
	objects []api.Obj
	shapes  []api.Shape
}

func (s spot) heap() *heap.Heap {
	h, err := heap.Load(api.MaxHeap, s.objects)
	if err != api.OK {
		panic(fmt.Sprintf("the test is wrong: error %d of %+v", err, s.objects))
	}
	return h
}

func (s spot) eval(x api.Expr) (api.Val, api.Errno) { return Eval(x, s.vars, s.heap(), s.shapes) }

func (s spot) text(x string) (string, api.Errno) { return Text(x, s.vars, s.heap(), s.shapes) }

func read(s string) api.Expr {
	x, at, err := syntax.Expr(s)
	if err != api.OK {
		panic(fmt.Sprintf("the test is wrong: error %d at %d of %s", err, at, s))
	}
	return x
}

// comes holds what a text comes to, at its tree and as it is shown, against a value.
func (s spot) comes(t *testing.T, x string, want api.Val) {
	t.Helper()
	v, err := s.eval(read(x))
	if v != want || err != api.OK {
		t.Errorf("Eval of %.300s: %s, error %d, not %s", x, shown(v), err, shown(want))
	}
	got, err := s.text(x)
	if is := s.heap().Show(want); got != is || err != api.OK {
		t.Errorf("Text of %.300s: %.300q, error %d, not %.300q", x, got, err, is)
	}
}

// wrong holds what is wrong of a text against an error.
func (s spot) wrong(t *testing.T, want api.Errno, all ...string) {
	t.Helper()
	for _, x := range all {
		s.wrongTree(t, want, read(x))
		if got, err := s.text(x); got != "" || err != want {
			t.Errorf("Text of %.300s: %.300q, error %d, not %d", x, got, err, want)
		}
	}
}

func (s spot) wrongTree(t *testing.T, want api.Errno, x api.Expr) {
	t.Helper()
	if v, err := s.eval(x); v != none || err != want {
		t.Errorf("Eval of %.300s: %s, error %d, not %d", shown(x), shown(v), err, want)
	}
}

// judge reckons by the chapter's words another way: it hands on what is wrong, and finds what a sign does by the kinds of what it is between.
type judge struct {
	spot
	rule string // what was wrong
}

func (j *judge) bad(rule string, err api.Errno) (api.Val, api.Errno) {
	j.rule = rule
	return none, err
}

// verdict tells what Eval is to tell.
func (j *judge) verdict(x api.Expr) (api.Val, api.Errno) {
	if _, err := syntax.PrintExpr(x); err == api.ErrArg {
		return j.bad("no expression", api.ErrArg)
	}
	for _, b := range j.vars {
		if !j.isRight(b.Value) {
			return j.bad("a value", api.ErrArg)
		}
	}
	return j.expr(x)
}

func (j *judge) isRight(v api.Val) bool {
	rest := v
	switch v.Kind {
	case api.VInt:
		rest.N = 0
	case api.VBool:
		if v.N == 1 {
			rest.N = 0
		}
	case api.VStr:
		if _, err := lex.Text(api.Tok{Kind: api.TStr, S: v.S}); err != api.OK {
			return false
		}
		rest.S = ""
	case api.VRef:
		if v.N < 0 || v.N >= len(j.objects) {
			return false
		}
		rest.N = 0
	case api.VNone:
	default:
		return false
	}
	return rest == api.Val{Kind: v.Kind}
}

func (j *judge) expr(x api.Expr) (api.Val, api.Errno) {
	if x.Kind == api.ENew || x.Kind == api.EArray {
		return j.bad("it makes something", api.ErrType)
	}
	if x.Kind == api.ECall && x.S != "len" && x.S != "str" {
		return j.bad("another call", api.ErrType)
	}
	if x.Kind == api.ECall && len(x.Kids) != 1 {
		return j.bad("a call with other kids", api.ErrType)
	}
	if x.Kind == api.EBinary && (x.S == "&&" || x.S == "||") {
		return j.either(x)
	}
	var kids []api.Val
	for _, k := range x.Kids {
		v, err := j.expr(k)
		if err != api.OK {
			return v, err
		}
		kids = append(kids, v)
	}
	return j.of(x, kids)
}

// either tells what && and || come to: the first side that settles it, or the second one.
func (j *judge) either(x api.Expr) (api.Val, api.Errno) {
	settles := map[string]api.Val{"&&": bit(0), "||": bit(1)}[x.S]
	for n, k := range x.Kids {
		v, err := j.expr(k)
		switch {
		case err != api.OK:
			return v, err
		case v.Kind != api.VBool:
			return j.bad(fmt.Sprint("side ", n, " of ", x.S), api.ErrType)
		case v == settles || n == 1:
			return v, api.OK
		}
	}
	panic("two sides, of which the second one ends it")
}

// kindOf tells what a value is, an object by what it is referred to for.
func (j *judge) kindOf(v api.Val) string {
	if v.Kind == api.VRef && j.objects[v.N].Tag != "" {
		return "record"
	}
	return [...]string{"none", "int", "bool", "str", "array"}[v.Kind]
}

// of tells what an expression comes to whose kids came to these values.
func (j *judge) of(x api.Expr, kids []api.Val) (api.Val, api.Errno) {
	switch x.Kind {
	case api.EInt:
		return num(x.N), api.OK
	case api.EBool:
		return bit(x.N), api.OK
	case api.EStr:
		return txt(x.S), api.OK
	case api.EName:
		v, is := none, false
		for _, b := range j.vars {
			if b.Name == x.S {
				v, is = b.Value, true
			}
		}
		if !is {
			return j.bad("no variable", api.ErrName)
		}
		return v, api.OK
	case api.EField:
		return j.field(x.S, kids[0])
	case api.EIndex:
		x.S = "[]"
	}
	what := x.S
	for _, v := range kids {
		what += " " + j.kindOf(v)
	}
	return j.sign(what, x.S, kids)
}

func (j *judge) field(name string, v api.Val) (api.Val, api.Errno) {
	if j.kindOf(v) != "record" {
		return j.bad("a field of "+j.kindOf(v), api.ErrType)
	}
	for _, s := range j.shapes {
		if s.Name != j.objects[v.N].Tag {
			continue
		}
		for n, f := range s.Fields {
			if f == name {
				return j.cell("a field's", v, n)
			}
		}
		return j.bad("no field", api.ErrName)
	}
	return j.bad("no shape", api.ErrName)
}

func (j *judge) cell(whose string, v api.Val, n int) (api.Val, api.Errno) {
	for i, c := range j.objects[v.N].Cells {
		if i == n {
			return c, api.OK
		}
	}
	return j.bad(whose+" cell", api.ErrFault)
}

// sign tells what is made of kids whose kinds what names; ErrType, where it names none of these.
func (j *judge) sign(what, sign string, kids []api.Val) (api.Val, api.Errno) {
	first, last := kids[0], kids[len(kids)-1]
	switch what {
	case "- int":
		return wrapped(new(big.Int).Neg(whole(first))), api.OK
	case "! bool":
		return bit(1 - first.N), api.OK
	case "+ int int":
		return wrapped(new(big.Int).Add(whole(first), whole(last))), api.OK
	case "- int int":
		return wrapped(new(big.Int).Sub(whole(first), whole(last))), api.OK
	case "* int int":
		return wrapped(new(big.Int).Mul(whole(first), whole(last))), api.OK
	case "/ int int", "% int int":
		if last.N == 0 {
			return j.bad(sign+" 0", api.ErrFault)
		}
		q, r := new(big.Int).QuoRem(whole(first), whole(last), new(big.Int))
		return wrapped(map[string]*big.Int{"/": q, "%": r}[sign]), api.OK
	case "+ str str":
		if len(first.S)+len(last.S) > 255 {
			return j.bad("a text", api.ErrFault)
		}
		return txt(fmt.Sprintf("%s%s", first.S, last.S)), api.OK
	case "[] array int":
		return j.cell("an index's", first, last.N)
	case "len str":
		return num(len([]byte(first.S))), api.OK
	case "len array", "len record":
		return num(len(j.objects[first.N].Cells)), api.OK
	case "str str":
		return first, api.OK
	case "str int":
		return txt(strconv.Itoa(first.N)), api.OK
	case "str bool":
		return txt(strconv.FormatBool(first.N == 1)), api.OK
	}
	return j.compared(what, sign, first, last)
}

func (j *judge) compared(what, sign string, a, b api.Val) (api.Val, api.Errno) {
	ways := map[string][]int{"==": {0}, "!=": {-1, 1}, "<": {-1}, "<=": {-1, 0}, ">": {1}, ">=": {0, 1}}
	var way int
	switch what[len(sign):] {
	case " int int":
		way = whole(a).Cmp(whole(b))
	case " str str":
		way = bytes.Compare([]byte(a.S), []byte(b.S))
	case " bool bool":
		if sign != "==" && sign != "!=" {
			return j.bad(what, api.ErrType)
		}
		way = a.N - b.N
	default:
		return j.bad(what, api.ErrType)
	}
	l, is := ways[sign]
	if !is {
		return j.bad(what, api.ErrType)
	}
	if slices.Contains(l, way) {
		return bit(1), api.OK
	}
	return bit(0), api.OK
}

func whole(v api.Val) *big.Int { return big.NewInt(int64(v.N)) }

// wrapped tells the number of 64 bits that stands for one beyond them.
func wrapped(n *big.Int) api.Val {
	all := new(big.Int).Lsh(big.NewInt(1), 64)
	n = new(big.Int).Mod(n, all)
	if n.BitLen() == 64 {
		n.Sub(n, all)
	}
	return num(int(n.Int64()))
}
