package compile

import (
	"fmt"
	"reflect"
	"slices"
	"strings"
	"testing"

	"hindcast/api"
	"hindcast/code"
	"hindcast/syntax"
	"hindcast/types"
)

func expect[T comparable](t *testing.T, what string, got, want T) {
	t.Helper()
	if got != want {
		t.Errorf("%.500s:\n got %v\nwant %v", what, got, want)
	}
}

func parse(t *testing.T, s string) api.Program {
	t.Helper()
	p, at, err := syntax.Parse(s)
	if err != api.OK {
		t.Fatalf("%.500s: error %d at %d: the test is wrong", s, err, at)
	}
	return p
}

// compiled tells the code of a text, and holds all that is told of it against the chapter's words.
func compiled(t *testing.T, s string) api.Code {
	t.Helper()
	c, line, err := Source(s)
	if err != api.OK || line != 0 {
		t.Fatalf("%.500s: error %d at %d", s, err, line)
	}
	expectCode(t, s, parse(t, s), c)
	return c
}

// expectCode demands that a code is the program's, by the chapter's words, and that Program tells it, too.
func expectCode(t *testing.T, what string, p api.Program, c api.Code) {
	t.Helper()
	want := codeByWords(p)
	if !reflect.DeepEqual(plain(c), plain(want)) {
		t.Errorf("%.800s:\n got %v\nwant %v", what, c, want)
	}
	expect(t, what+": code.Check", code.Check(c), api.OK)
	again, line, err := Program(p)
	if err != api.OK || line != 0 || !reflect.DeepEqual(plain(again), plain(c)) {
		t.Errorf("%.500s: Program: error %d at %d, or another code", what, err, line)
	}
}

// expectNone demands an error and its line, and nothing beside them.
func expectNone(t *testing.T, what string, c api.Code, line int, err api.Errno, wantLine int, want api.Errno) {
	t.Helper()
	if err != want || line != wantLine || want == api.OK {
		t.Errorf("%.300q: error %d at %d, not %d at %d", what, err, line, want, wantLine)
	}
	if !reflect.DeepEqual(c, api.Code{}) {
		t.Errorf("%.300q: a code beside an error: %v", what, c)
	}
}

func expectNoSource(t *testing.T, s string, line int, want api.Errno) {
	t.Helper()
	c, got, err := Source(s)
	expectNone(t, s, c, got, err, line, want)
}

func expectNoProgram(t *testing.T, what string, p api.Program, line int, want api.Errno) {
	t.Helper()
	c, got, err := Program(p)
	expectNone(t, what, c, got, err, line, want)
}

// listed tells a unit's instructions as code.List does, parted by semicolons, without their numbers.
func listed(c api.Code, unit int) string {
	l, err := code.List(c)
	if err != api.OK {
		return fmt.Sprint("error ", err)
	}
	var parts []string
	n := -1
	for _, line := range l {
		number, ins, _ := strings.Cut(line, " ")
		if number == "fn" {
			n++
		} else if n == unit {
			parts = append(parts, ins)
		}
	}
	return strings.Join(parts, "; ")
}

// varsOf tells a unit's variables: of each the name, the slot, from where and to where.
func varsOf(u api.Unit) string {
	var parts []string
	for _, v := range u.Vars {
		parts = append(parts, fmt.Sprintf("%s %d %d-%d", v.Name, v.Slot, v.From, v.To))
	}
	return strings.Join(parts, ", ")
}

// plain tells a code in which nil stands for every empty list.
func plain(c api.Code) api.Code {
	c.Strs, c.Shapes, c.Units = nilled(c.Strs), nilled(slices.Clone(c.Shapes)), nilled(slices.Clone(c.Units))
	for i := range c.Shapes {
		c.Shapes[i].Fields = nilled(c.Shapes[i].Fields)
	}
	for i := range c.Units {
		c.Units[i].Ins, c.Units[i].Vars = nilled(c.Units[i].Ins), nilled(c.Units[i].Vars)
	}
	return c
}

func nilled[T any](l []T) []T {
	if len(l) == 0 {
		return nil
	}
	return l
}

// What follows tells a program's code by the chapter's words, another way: as symbols, which get their numbers when all of them stand there.

// symbol is an instruction that may name a text or a place; or, with a colon in its op, something that stands ahead of the instruction behind it: a place, or a variable's beginning or end.
type symbol struct {
	op   string
	n    int
	name string
}

const opNames = " mark int bool str load store pop add sub mul div rem neg not eq ne lt le gt ge jump unless call return array new index setindex field setfield len show fill input print "

func opOf(name string) api.Op {
	ahead, _, is := strings.Cut(opNames, " "+name+" ")
	if !is {
		panic("no op: " + name)
	}
	return api.Op(strings.Count(ahead, " "))
}

// words goes through a function.
type words struct {
	p      api.Program
	f      api.Func
	lets   []string
	places int
}

func (w *words) place(s string) string {
	w.places++
	return fmt.Sprint(s, w.places)
}

func (w *words) slot(name string) int {
	for n, v := range w.f.Params {
		if v.Name == name {
			return n
		}
	}
	return len(w.f.Params) + slices.Index(w.lets, name)
}

func joined(l ...[]symbol) []symbol { return slices.Concat(l...) }

func one(op string, n int) []symbol          { return []symbol{{op, n, ""}} }
func naming(op string, name string) []symbol { return []symbol{{op, 0, name}} }

var signOps = strings.Fields("+ add - sub * mul / div % rem == eq != ne < lt <= le > gt >= ge")

func (w *words) expr(e api.Expr) []symbol {
	var kids [][]symbol
	for _, k := range e.Kids {
		kids = append(kids, w.expr(k))
	}
	all := joined(kids...)
	switch e.Kind {
	case api.EInt:
		return one("int", e.N)
	case api.EBool:
		return one("bool", e.N)
	case api.EStr:
		return naming("str", e.S)
	case api.EName:
		return one("load", w.slot(e.S))
	case api.EUnary:
		return append(all, symbol{op: map[string]string{"-": "neg", "!": "not"}[e.S]})
	case api.EBinary:
		f, end := w.place("F"), w.place("E")
		switch e.S {
		case "&&":
			return joined(kids[0], naming("unless", f), kids[1], naming("jump", end), naming(":", f), one("bool", 0), naming(":", end))
		case "||":
			return joined(kids[0], naming("unless", f), one("bool", 1), naming("jump", end), naming(":", f), kids[1], naming(":", end))
		}
		return append(all, symbol{op: signOps[slices.Index(signOps, e.S)+1]})
	case api.EIndex:
		return append(all, symbol{op: "index"})
	case api.EField:
		return append(all, symbol{"field", 0, e.S})
	case api.EArray:
		return append(all, symbol{op: "array", n: len(e.Kids)})
	case api.ENew:
		return append(all, symbol{op: "new", n: slices.IndexFunc(w.p.Records, func(r api.Record) bool { return r.Name == e.S })})
	}
	if n := slices.IndexFunc(w.p.Funcs, func(f api.Func) bool { return f.Name == e.S }); n >= 0 {
		return append(all, symbol{op: "call", n: n})
	}
	if e.S == "print" {
		return append(all, symbol{op: "print", n: len(e.Kids)})
	}
	return append(all, symbol{op: map[string]string{"len": "len", "str": "show", "array": "fill", "input": "input"}[e.S]})
}

func (w *words) row(l []api.Stmt) []symbol {
	var all, ends []symbol
	for _, s := range l {
		all = append(all, w.stmt(s)...)
		if s.Kind == api.SLet {
			all = append(all, symbol{"from:", 0, s.S})
			ends = append(ends, symbol{"to:", 0, s.S})
		}
	}
	return append(all, ends...)
}

func (w *words) stmt(s api.Stmt) []symbol {
	var e [][]symbol
	for _, x := range s.E {
		e = append(e, w.expr(x))
	}
	mark := one("mark", s.Line)
	begin, f, end := w.place("L"), w.place("F"), w.place("E")
	switch s.Kind {
	case api.SLet:
		w.lets = append(w.lets, s.S)
		return joined(mark, e[0], one("store", w.slot(s.S)))
	case api.SSet:
		var kids []symbol
		for _, k := range s.E[0].Kids {
			kids = append(kids, w.expr(k)...)
		}
		switch s.E[0].Kind {
		case api.EName:
			return joined(mark, e[1], one("store", w.slot(s.E[0].S)))
		case api.EIndex:
			return joined(mark, kids, e[1], one("setindex", 0))
		}
		return joined(mark, kids, e[1], naming("setfield", s.E[0].S))
	case api.SIf:
		return joined(mark, e[0], naming("unless", end), w.row(s.Body), naming(":", end))
	case api.SElse:
		return joined(mark, e[0], naming("unless", f), w.row(s.Body), naming("jump", end), naming(":", f), w.row(s.Else), naming(":", end))
	case api.SWhile:
		return joined(naming(":", begin), mark, e[0], naming("unless", end), w.row(s.Body), naming("jump", begin), naming(":", end))
	case api.SReturn:
		return joined(mark, joined(e...), one("return", len(e)))
	}
	if t, _, _ := types.Of(w.p, nil, api.Expr{Kind: api.ECall, S: s.E[0].S}); t == "" && !w.puts(s.E[0].S) {
		return joined(mark, e[0])
	}
	return joined(mark, e[0], one("pop", 0))
}

func (w *words) puts(name string) bool {
	for _, f := range w.p.Funcs {
		if f.Name == name {
			return f.Result != ""
		}
	}
	return name != "print"
}

// unit gives numbers to a function's symbols; texts get theirs from a list that all units share.
func (w *words) unit(strs *[]string) api.Unit {
	l := w.row(w.f.Body)
	if w.f.Result != "" {
		l = append(l, one("int", 0)...)
		l = append(l, one("return", 1)...)
	} else {
		l = append(l, one("return", 0)...)
	}
	at, size := map[string]int{}, 0
	for _, s := range l {
		if strings.HasSuffix(s.op, ":") {
			at[s.op+s.name] = size
		} else {
			size++
		}
	}
	u := api.Unit{Name: w.f.Name, Params: len(w.f.Params), Slots: len(w.f.Params) + len(w.lets), Result: w.f.Result != ""}
	for n, v := range w.f.Params {
		u.Vars = append(u.Vars, api.Var{Name: v.Name, Slot: n, From: 0, To: size})
	}
	for _, name := range w.lets {
		u.Vars = append(u.Vars, api.Var{Name: name, Slot: w.slot(name), From: at["from:"+name], To: at["to:"+name]})
	}
	for _, s := range l {
		switch s.op {
		case ":", "from:", "to:":
			continue
		case "jump", "unless":
			s.n = at[":"+s.name]
		case "str", "field", "setfield":
			if !slices.Contains(*strs, s.name) {
				*strs = append(*strs, s.name)
			}
			s.n = slices.Index(*strs, s.name)
		}
		u.Ins = append(u.Ins, api.Ins{Op: opOf(s.op), A: s.n})
	}
	return u
}

func codeByWords(p api.Program) api.Code {
	var c api.Code
	for _, r := range p.Records {
		s := api.Shape{Name: r.Name}
		for _, f := range r.Fields {
			s.Fields = append(s.Fields, f.Name)
		}
		c.Shapes = append(c.Shapes, s)
	}
	for n, f := range p.Funcs {
		c.Units = append(c.Units, (&words{p: p, f: f}).unit(&c.Strs))
		if f.Name == "main" {
			c.Main = n
		}
	}
	for n, u := range c.Units {
		c.Units[n].Stack = greatestByWords(c, u)
	}
	return c
}

// greatestByWords walks through a unit from its first instruction on, and tells the greatest height that it comes to.
func greatestByWords(c api.Code, u api.Unit) int {
	known := map[[2]int]bool{}
	greatest := 0
	var walk func(at, height int)
	walk = func(at, height int) {
		for !known[[2]int{at, height}] {
			known[[2]int{at, height}] = true
			greatest = max(greatest, height)
			i := u.Ins[at]
			height += growth(c, i)
			at++
			switch i.Op {
			case api.OpReturn:
				return
			case api.OpJump:
				at = i.A
			case api.OpUnless:
				walk(i.A, height)
			}
		}
	}
	walk(0, 0)
	return greatest
}

// growth tells by how much an instruction lets the stack grow.
func growth(c api.Code, i api.Ins) int {
	switch i.Op {
	case api.OpInt, api.OpBool, api.OpStr, api.OpLoad, api.OpInput:
		return 1
	case api.OpMark, api.OpJump, api.OpNeg, api.OpNot, api.OpField, api.OpLen, api.OpShow:
		return 0
	case api.OpSetIndex:
		return -3
	case api.OpSetField:
		return -2
	case api.OpPrint, api.OpReturn:
		return -i.A
	case api.OpArray:
		return 1 - i.A
	case api.OpNew:
		return 1 - len(c.Shapes[i.A].Fields)
	case api.OpCall:
		if c.Units[i.A].Result {
			return 1 - c.Units[i.A].Params
		}
		return -c.Units[i.A].Params
	}
	return -1
}
