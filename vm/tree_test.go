package vm

import (
	"slices"
	"strings"

	"hindcast/api"
	"hindcast/heap"
)

// This file runs a program by its statements, as a tree, without any code, and writes down what is to be seen at each position.

// moment is a position: the look, and the objects there are.
type moment struct {
	look api.Look
	heap []api.Obj
}

// scope is a function that is being run: there are the variables that were to be seen at its last position.
type scope struct {
	name        string
	line        int
	vars, there []*api.Bind
}

type walker struct {
	p       api.Program
	input   []int
	lim     api.Limits
	heap    []api.Obj
	used    int
	out     string
	scopes  []*scope
	moments []moment
}

// walk tells all positions of a program's run.
func walk(p api.Program, input []int, lim api.Limits) []moment {
	w := &walker{p: p, input: input, lim: lim}
	func() {
		defer func() {
			switch x := recover().(type) {
			case nil:
				w.scopes = nil
				w.write(api.Done, api.NoFault)
			case api.Fault:
				w.write(api.Faulty, x)
			default:
				panic(x)
			}
		}()
		w.call("main", nil)
	}()
	return w.moments
}

func (w *walker) write(status api.Status, fault api.Fault) {
	l := api.Look{Pos: len(w.moments), Status: status, Fault: fault, Out: w.out}
	for _, s := range w.scopes {
		f := api.Frame{Func: s.name, Line: s.line}
		for _, v := range s.there {
			f.Vars = append(f.Vars, *v)
		}
		l.Frames = append(l.Frames, f)
	}
	w.moments = append(w.moments, moment{l, cloned(api.State{Heap: w.heap}).Heap})
}

func (w *walker) scope() *scope { return w.scopes[len(w.scopes)-1] }

// at is a position: a statement, or the asking of a loop's condition, is to come.
func (w *walker) at(line int) {
	s := w.scope()
	s.line, s.there = line, slices.Clone(s.vars)
	if len(w.moments) == w.lim.Steps {
		panic(api.FaultSteps)
	}
	w.write(api.Running, api.NoFault)
}

func (w *walker) call(name string, arguments []api.Val) api.Val {
	if len(w.scopes) == w.lim.Frames {
		panic(api.FaultFrames)
	}
	f := w.p.Funcs[slices.IndexFunc(w.p.Funcs, func(f api.Func) bool { return f.Name == name })]
	s := &scope{name: name}
	for n, v := range f.Params {
		s.vars = append(s.vars, &api.Bind{Name: v.Name, Value: arguments[n]})
	}
	w.scopes = append(w.scopes, s)
	v, _ := w.row(f.Body)
	w.scopes = w.scopes[:len(w.scopes)-1]
	return v
}

// row tells whether a return ended it, and with which result.
func (w *walker) row(l []api.Stmt) (api.Val, bool) {
	s := w.scope()
	size := len(s.vars)
	for _, x := range l {
		if v, is := w.stmt(x); is {
			return v, true
		}
	}
	s.vars = s.vars[:size]
	return none, false
}

func (w *walker) stmt(x api.Stmt) (api.Val, bool) {
	w.at(x.Line)
	s := w.scope()
	switch x.Kind {
	case api.SLet:
		v := w.expr(x.E[0])
		s.vars = append(s.vars[:len(s.vars):len(s.vars)], &api.Bind{Name: x.S, Value: v})
	case api.SSet:
		w.set(x.E[0], x.E[1])
	case api.SIf, api.SElse:
		if w.expr(x.E[0]).N == 1 {
			return w.row(x.Body)
		}
		return w.row(x.Else)
	case api.SWhile:
		for w.expr(x.E[0]).N == 1 {
			if v, is := w.row(x.Body); is {
				return v, true
			}
			w.at(x.Line)
		}
	case api.SReturn:
		if len(x.E) == 0 {
			return none, true
		}
		return w.expr(x.E[0]), true
	case api.SDo:
		w.expr(x.E[0])
	}
	return none, false
}

func (w *walker) variable(name string) *api.Bind {
	vars := w.scope().vars
	return vars[slices.IndexFunc(vars, func(v *api.Bind) bool { return v.Name == name })]
}

func (w *walker) set(place, e api.Expr) {
	if place.Kind == api.EName {
		v := w.expr(e)
		w.variable(place.S).Value = v
		return
	}
	l := w.exprs(append(slices.Clone(place.Kids), e))
	n := 0
	if place.Kind == api.EField {
		n = w.field(l[0], place.S)
	} else {
		n = l[1].N
	}
	*w.cell(l[0], n) = l[len(l)-1]
}

func (w *walker) field(r api.Val, name string) int {
	tag := w.heap[r.N].Tag
	for _, x := range w.p.Records {
		if x.Name == tag {
			return slices.IndexFunc(x.Fields, func(f api.Param) bool { return f.Name == name })
		}
	}
	panic("no record " + tag)
}

func (w *walker) cell(r api.Val, n int) *api.Val {
	cells := w.heap[r.N].Cells
	if n < 0 || n >= len(cells) {
		panic(api.FaultIndex)
	}
	return &cells[n]
}

func (w *walker) object(tag string, cells []api.Val) api.Val {
	w.used += 1 + len(cells)
	if w.used > w.lim.Heap {
		panic(api.FaultHeap)
	}
	w.heap = append(w.heap, api.Obj{Tag: tag, Cells: slices.Clone(cells)})
	return ref(len(w.heap) - 1)
}

func (w *walker) exprs(l []api.Expr) []api.Val {
	var all []api.Val
	for _, e := range l {
		all = append(all, w.expr(e))
	}
	return all
}

func (w *walker) expr(e api.Expr) api.Val {
	if e.Kind == api.EBinary && (e.S == "&&" || e.S == "||") {
		first := w.expr(e.Kids[0])
		if (first.N == 1) == (e.S == "||") {
			return first
		}
		return w.expr(e.Kids[1])
	}
	l := w.exprs(e.Kids)
	switch e.Kind {
	case api.EInt:
		return num(e.N)
	case api.EBool:
		return boolean(e.N)
	case api.EStr:
		return txt(e.S)
	case api.EName:
		return w.variable(e.S).Value
	case api.ECall:
		return w.builtin(e.S, l)
	case api.EUnary:
		return reckonByWords(map[string]api.Op{"-": api.OpNeg, "!": api.OpNot}[e.S], l)
	case api.EBinary:
		return w.sign(e.S, l)
	case api.EIndex:
		return *w.cell(l[0], l[1].N)
	case api.EField:
		return *w.cell(l[0], w.field(l[0], e.S))
	case api.EArray:
		return w.object("", l)
	}
	return w.object(e.S, l)
}

var signs = map[string]api.Op{
	"+": api.OpAdd, "-": api.OpSub, "*": api.OpMul, "/": api.OpDiv, "%": api.OpRem, "==": api.OpEq, "!=": api.OpNe,
	"<": api.OpLt, "<=": api.OpLe, ">": api.OpGt, ">=": api.OpGe,
}

func (w *walker) sign(sign string, l []api.Val) api.Val {
	if (sign == "/" || sign == "%") && l[1].N == 0 {
		panic(api.FaultDiv)
	}
	if len(l[0].S+l[1].S) > 255 && sign == "+" {
		panic(api.FaultText)
	}
	return reckonByWords(signs[sign], l)
}

func (w *walker) show(v api.Val) string {
	if v.Kind == api.VStr {
		return v.S
	}
	h, _ := heap.Load(4096, w.heap)
	return h.Show(v)
}

func (w *walker) builtin(name string, l []api.Val) api.Val {
	switch name {
	case "len":
		if l[0].Kind == api.VStr {
			return num(len(l[0].S))
		}
		return num(len(w.heap[l[0].N].Cells))
	case "str":
		return txt(w.show(l[0]))
	case "array":
		if l[0].N < 0 || l[0].N > 4096 {
			panic(api.FaultSize)
		}
		return w.object("", slices.Repeat(l[1:], l[0].N))
	case "input":
		if len(w.input) == 0 {
			panic(api.FaultInput)
		}
		n := w.input[0]
		w.input = w.input[1:]
		return num(n)
	case "print":
		var parts []string
		for _, v := range l {
			parts = append(parts, w.show(v))
		}
		line := strings.Join(parts, " ") + "\n"
		if len(w.out)+len(line) > w.lim.Out {
			panic(api.FaultOut)
		}
		w.out += line
		return none
	}
	return w.call(name, l)
}
