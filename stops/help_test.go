package stops

import (
	"fmt"
	"maps"
	"slices"
	"strings"
	"testing"

	"hindcast/api"
	"hindcast/eval"
	"hindcast/heap"
	"hindcast/syntax"
)

func num(n int) api.Val                  { return api.Val{Kind: api.VInt, N: n} }
func bit(n int) api.Val                  { return api.Val{Kind: api.VBool, N: n} }
func txt(s string) api.Val               { return api.Val{Kind: api.VStr, S: s} }
func ref(n int) api.Val                  { return api.Val{Kind: api.VRef, N: n} }
func named(n string, v api.Val) api.Bind { return api.Bind{Name: n, Value: v} }

var none api.Val

func obj(tag string, cells ...api.Val) api.Obj { return api.Obj{Tag: tag, Cells: cells} }

func shape(name string, fields ...string) api.Shape { return api.Shape{Name: name, Fields: fields} }

func expect[T comparable](t *testing.T, what string, got, want T) {
	t.Helper()
	if got != want {
		t.Errorf("%.300s:\n got %.600v\nwant %.600v", what, got, want)
	}
}

func expectList[T comparable](t *testing.T, what string, got []T, want ...T) {
	t.Helper()
	if !slices.Equal(got, want) {
		t.Errorf("%.300s:\n got %.600v\nwant %.600v", what, got, want)
	}
}

// told tells what is told as a text, in which nil and the empty list are the same.
func told(x any) string { return fmt.Sprintf("%+v", x) }

// spot is where a run stands.
type spot struct {
	vars   []api.Bind
	heap   *heap.Heap
	shapes []api.Shape
}

func (s spot) frame(line int) api.Frame { return api.Frame{Func: "main", Line: line, Vars: s.vars} }

func (s spot) hits(x *Table, line int) []int { return x.Hits(s.frame(line), s.heap, s.shapes) }

func (s spot) watched(x *Table) []string { return x.Watched(s.frame(1), s.heap, s.shapes) }

func objects(l ...api.Obj) *heap.Heap {
	h, err := heap.Load(api.MaxHeap, l)
	if err != api.OK {
		panic(fmt.Sprintf("the test is wrong: error %d of %+v", err, l))
	}
	return h
}

// with tells a spot with the number a alone.
func with(a int) spot { return spot{vars: []api.Bind{named("a", num(a))}, heap: heap.New(9)} }

// here is a spot with values of every kind.
func here() spot {
	return spot{
		vars: []api.Bind{
			named("a", num(2)), named("b", num(-3)), named("t", bit(1)), named("f", bit(0)), named("s", txt("true")), named("n", none), named("l", ref(0)), named("p", ref(1)),
		},
		heap:   objects(obj("", num(5), num(6)), obj("P", num(3), txt("q"))),
		shapes: []api.Shape{shape("P", "x", "s")},
	}
}

// spots are of all sorts: whole, with several variables of one name and no shapes, with other objects and shapes, without variables and objects, without a heap, with one that nothing made, with a value that is not right.
func spots() []spot {
	several, others, bad, no, unmade := here(), here(), here(), here(), here()
	several.vars = append([]api.Bind{named("a", num(7)), named("a", txt("x")), named("t", bit(0))}, several.vars...)
	several.vars = append(several.vars, named("a", num(1)), named("f", bit(1)))
	several.shapes = nil
	others.heap = objects(obj("", num(3)), obj("P", txt("z")), obj("Q"))
	others.shapes = []api.Shape{shape("Q", "x"), shape("P", "s", "x"), shape("P", "x")}
	bad.vars = append(bad.vars, named("bad", ref(9)))
	no.heap = nil
	unmade.heap = &heap.Heap{}
	return []spot{here(), several, others, {heap: heap.New(0)}, no, unmade, bad}
}

func mustBreak(t *testing.T, x *Table, line int, cond string, want int) {
	t.Helper()
	if id, err := x.Break(line, cond); id != want || err != api.OK {
		t.Fatalf("Break(%d, %.100q): %d, error %d, not %d", line, cond, id, err, want)
	}
}

func mustWatch(t *testing.T, x *Table, s string, want int) {
	t.Helper()
	if id, err := x.Watch(s); id != want || err != api.OK {
		t.Fatalf("Watch(%.100q): %d, error %d, not %d", s, id, err, want)
	}
}

func mustLoad(t *testing.T, l []api.Stop, next int) *Table {
	t.Helper()
	x, err := Load(l, next)
	if x == nil || err != api.OK {
		t.Fatalf("Load(%.600s, %d): error %d, or no table", told(l), next, err)
	}
	return x
}

func refuseBreak(t *testing.T, x *Table, line int, cond string, want api.Errno) {
	t.Helper()
	was := told(x.All()) + told(x.Next())
	if id, err := x.Break(line, cond); id != 0 || err != want {
		t.Errorf("Break(%d, %.100q): %d, error %d, not 0, error %d", line, cond, id, err, want)
	}
	expect(t, "the table behind a Break that is refused", told(x.All())+told(x.Next()), was)
}

func refuseWatch(t *testing.T, x *Table, s string, want api.Errno) {
	t.Helper()
	was := told(x.All()) + told(x.Next())
	if id, err := x.Watch(s); id != 0 || err != want {
		t.Errorf("Watch(%.100q): %d, error %d, not 0, error %d", s, id, err, want)
	}
	expect(t, "the table behind a Watch that is refused", told(x.All())+told(x.Next()), was)
}

func refuseLoad(t *testing.T, l []api.Stop, next int, want api.Errno) {
	t.Helper()
	if x, err := Load(l, next); x != nil || err != want {
		t.Errorf("Load(%.600s, %d): %v, error %d, not none, error %d", told(l), next, x, err, want)
	}
}

// row tells breakpoints with the Ids from one on.
func row(n, from int) []api.Stop {
	var l []api.Stop
	for i := range n {
		l = append(l, api.Stop{Id: from + i, Line: 1 + i%3})
	}
	return l
}

// texts are what no expression is, with what is wrong with it.
var texts = map[string]api.Errno{
	" ": api.ErrSyntax, "1 +": api.ErrSyntax, "1+": api.ErrSyntax, "a b": api.ErrSyntax, "a = 1": api.ErrSyntax, "a;": api.ErrSyntax, "@": api.ErrSyntax, "(a": api.ErrSyntax, "let": api.ErrSyntax, "// a": api.ErrSyntax, "a & b": api.ErrSyntax, "\x00": api.ErrSyntax,
	strings.Repeat("-", 24) + "1": api.ErrDeep, strings.Repeat(" ", 4096) + "1": api.ErrBig, strings.Repeat("a", 21): api.ErrBig, "9223372036854775808": api.ErrBig,
}

// model is a table by the chapter's words: stops in a map, through which all is looked for anew each time. Of all that is wrong the first is told.
type model struct {
	next int
	at   map[int]api.Stop
}

func newModel(next int) *model { return &model{next, map[int]api.Stop{}} }

// first tells the first of the rules that is broken.
func first(rules ...api.Errno) api.Errno {
	for _, err := range rules {
		if err != api.OK {
			return err
		}
	}
	return api.OK
}

func when(is bool, err api.Errno) api.Errno {
	if is {
		return err
	}
	return api.OK
}

func (m *model) full() api.Errno {
	return first(when(len(m.at) > 15, api.ErrFull), when(m.next > 1<<31-2, api.ErrFull))
}

func (m *model) reads(s string) api.Errno {
	_, _, err := syntax.Expr(s)
	return err
}

func (m *model) put(s api.Stop, err api.Errno) (int, api.Errno) {
	if err != api.OK {
		return 0, err
	}
	s.Id = m.next
	m.at[s.Id] = s
	m.next = s.Id + 1
	return s.Id, api.OK
}

func (m *model) brk(line int, cond string) (int, api.Errno) {
	reads := api.OK
	if len(cond) > 0 {
		reads = m.reads(cond)
	}
	return m.put(api.Stop{Line: line, Cond: cond}, first(when(line <= 0, api.ErrArg), reads, m.full()))
}

func (m *model) watch(s string) (int, api.Errno) {
	return m.put(api.Stop{Watch: s}, first(m.reads(s), m.full()))
}

func (m *model) delete(id int) api.Errno {
	_, is := m.at[id]
	delete(m.at, id)
	return when(!is, api.ErrNone)
}

func (m *model) turn(id int, on bool) api.Errno {
	s, is := m.at[id]
	if !is {
		return api.ErrNone
	}
	s.Off = !on
	m.at[id] = s
	return api.OK
}

func (m *model) all() []api.Stop {
	var l []api.Stop
	for _, id := range slices.Sorted(maps.Keys(m.at)) {
		l = append(l, m.at[id])
	}
	return l
}

// comes tells what a text comes to, by its tree.
func comes(s string, p spot) (api.Val, bool) {
	x, _, err := syntax.Expr(s)
	if err != api.OK {
		return none, false
	}
	v, err := eval.Eval(x, p.vars, p.heap, p.shapes)
	return v, err == api.OK
}

func (m *model) hits(p spot, line int) []int {
	var l []int
	for _, s := range m.all() {
		if s.Off || s.Line == 0 || s.Line != line {
			continue
		}
		if v, is := comes(s.Cond, p); s.Cond == "" || is && v == bit(1) {
			l = append(l, s.Id)
		}
	}
	return l
}

func (m *model) watched(p spot) []string {
	var l []string
	for _, s := range m.all() {
		if s.Off || s.Line != 0 {
			continue
		}
		l = append(l, "?")
		if v, is := comes(s.Watch, p); is {
			l[len(l)-1] = p.heap.Show(v)
		}
	}
	return l
}

// expectSame holds a table against the model of it, at these spots.
func expectSame(t *testing.T, what string, x *Table, m *model, at ...spot) {
	t.Helper()
	if got, want := x.All(), m.all(); !slices.Equal(got, want) {
		t.Fatalf("%.2000s: All: %s, not %s", what, told(got), told(want))
	}
	if got := x.Next(); got != m.next {
		t.Fatalf("%.2000s: Next: %d, not %d", what, got, m.next)
	}
	for n, p := range at {
		for line := range 5 {
			if got, want := p.hits(x, line), m.hits(p, line); !slices.Equal(got, want) {
				t.Fatalf("%.2000s: Hits at line %d of spot %d: %v, not %v", what, line, n, got, want)
			}
		}
		if got, want := p.watched(x), m.watched(p); !slices.Equal(got, want) {
			t.Fatalf("%.2000s: Watched at spot %d: %q, not %q", what, n, got, want)
		}
	}
}
