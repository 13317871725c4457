package eval

import (
	"slices"

	"hindcast/api"
	"hindcast/heap"
)

// place is where a run stands: what an expression there may name and reach.
type place struct {
	vars   []api.Bind
	heap   *heap.Heap
	shapes []api.Shape
}

func (p place) hasRightValues() bool {
	return !slices.ContainsFunc(p.vars, func(b api.Bind) bool { return !p.isRight(b.Value) })
}

// isRight tells whether a value is right among the heap's objects. Of a reference the heap is asked itself: it does not say how many objects it has, short of telling them all.
func (p place) isRight(v api.Val) bool {
	if v.Kind == api.VRef {
		_, err := p.heap.Len(v)
		return err == api.OK
	}
	return heap.Check(v, 0) == api.OK
}

// expr tells what an expression that may be told comes to, or gives up.
func (p place) expr(x api.Expr) api.Val {
	switch x.Kind {
	case api.EInt:
		return number(x.N)
	case api.EBool:
		return truth(x.N == 1)
	case api.EStr:
		return text(x.S)
	case api.EName:
		return p.variable(x.S)
	case api.ECall:
		return p.call(x)
	case api.EUnary:
		return unary(x.S, p.expr(x.Kids[0]))
	case api.EBinary:
		return p.binary(x)
	case api.EIndex:
		return p.index(p.expr(x.Kids[0]), p.expr(x.Kids[1]))
	case api.EField:
		return p.field(p.expr(x.Kids[0]), x.S)
	}
	panic(api.ErrType) // it would make an object
}

func (p place) variable(name string) api.Val {
	for _, b := range slices.Backward(p.vars) {
		if b.Name == name {
			return b.Value
		}
	}
	panic(api.ErrName)
}

// call tells what len or str comes to. Another call is refused ahead of its kids: it might change something.
func (p place) call(x api.Expr) api.Val {
	demand((x.S == "len" || x.S == "str") && len(x.Kids) == 1, api.ErrType)
	v := p.expr(x.Kids[0])
	if x.S == "len" {
		return p.length(v)
	}
	return p.written(v)
}

func (p place) length(v api.Val) api.Val {
	if v.Kind == api.VStr {
		return number(len(v.S))
	}
	n, err := p.heap.Len(v)
	demand(err == api.OK, api.ErrType)
	return number(n)
}

func (p place) written(v api.Val) api.Val {
	demand(isPlain(v), api.ErrType)
	if v.Kind == api.VStr {
		return v
	}
	return text(p.heap.Show(v))
}

func (p place) binary(x api.Expr) api.Val {
	first := p.expr(x.Kids[0])
	if x.S != "&&" && x.S != "||" {
		return binary(x.S, first, p.expr(x.Kids[1]))
	}
	if isTrue := want(first, api.VBool).N == 1; isTrue == (x.S == "||") {
		return first
	}
	return want(p.expr(x.Kids[1]), api.VBool)
}

func (p place) index(a, i api.Val) api.Val {
	tag, err := p.heap.Tag(a)
	demand(err == api.OK && tag == "" && i.Kind == api.VInt, api.ErrType)
	return p.cell(a, i.N)
}

func (p place) field(r api.Val, name string) api.Val {
	tag, err := p.heap.Tag(r)
	demand(err == api.OK && tag != "", api.ErrType)
	at := slices.IndexFunc(p.shapes, func(s api.Shape) bool { return s.Name == tag })
	demand(at >= 0, api.ErrName)
	i := slices.Index(p.shapes[at].Fields, name)
	demand(i >= 0, api.ErrName)
	return p.cell(r, i)
}

func (p place) cell(object api.Val, i int) api.Val {
	v, err := p.heap.Get(object, i)
	demand(err == api.OK, api.ErrFault)
	return v
}
