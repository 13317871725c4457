package compile

import (
	"strings"

	"hindcast/api"
)

// function is what a call has to know of a function.
type function struct {
	number int
	puts   bool
}

// tables are what all units of a code share: the numbers of what instructions name.
type tables struct {
	funcs   map[string]function
	records map[string]int
	texts   map[string]int
	strs    []string // the texts, each at its number
}

func newTables(p api.Program) *tables {
	t := &tables{funcs: map[string]function{}, records: map[string]int{}, texts: map[string]int{}}
	for n, f := range p.Funcs {
		t.funcs[f.Name] = function{n, f.Result != ""}
	}
	for n, r := range p.Records {
		t.records[r.Name] = n
	}
	return t
}

// text tells a text's number, a new one of a text that was not named yet.
func (t *tables) text(s string) int {
	n, known := t.texts[s]
	if !known {
		n = len(t.strs)
		t.texts[s] = n
		t.strs = append(t.strs, strings.Clone(s))
	}
	return n
}

// builder is a function's unit as it grows.
type builder struct {
	*tables
	unit  api.Unit
	slots map[string]int
}

func unitOf(f api.Func, t *tables) api.Unit {
	b := &builder{tables: t, slots: map[string]int{}}
	b.unit.Name = strings.Clone(f.Name)
	b.unit.Params = len(f.Params)
	b.unit.Result = f.Result != ""
	var ends []func()
	for _, v := range f.Params {
		b.slots[v.Name] = len(b.slots)
		ends = append(ends, b.variable(v.Name))
	}
	b.row(f.Body)
	b.leave()
	for _, end := range ends {
		end()
	}
	b.unit.Slots = len(b.slots)
	return b.unit
}

// leave stands behind the statements of every function: where they end by themselves nobody comes to it, but jumps over the last of them lead there.
func (b *builder) leave() {
	if b.unit.Result {
		b.put(api.OpInt, 0)
		b.put(api.OpReturn, 1)
		return
	}
	b.put(api.OpReturn, 0)
}

// here tells the number of the instruction that comes next.
func (b *builder) here() int { return len(b.unit.Ins) }

func (b *builder) put(op api.Op, a int) {
	b.unit.Ins = append(b.unit.Ins, api.Ins{Op: op, A: a})
}

// jump puts a jump that leads to where what it answers is called.
func (b *builder) jump(op api.Op) (land func()) {
	at := b.here()
	b.put(op, 0)
	return func() { b.unit.Ins[at].A = b.here() }
}

// variable tells of a variable that is there from here to where what it answers is called.
func (b *builder) variable(name string) (end func()) {
	n := len(b.unit.Vars)
	b.unit.Vars = append(b.unit.Vars, api.Var{Name: strings.Clone(name), Slot: b.slots[name], From: b.here()})
	return func() { b.unit.Vars[n].To = b.here() }
}

func (b *builder) row(l []api.Stmt) {
	var ends []func()
	for _, s := range l {
		b.statement(s)
		if s.Kind == api.SLet {
			ends = append(ends, b.variable(s.S))
		}
	}
	for _, end := range ends {
		end()
	}
}

func (b *builder) statement(s api.Stmt) {
	begin := b.here()
	b.put(api.OpMark, s.Line)
	switch s.Kind {
	case api.SLet:
		b.expr(s.E[0])
		b.slots[s.S] = len(b.slots)
		b.put(api.OpStore, b.slots[s.S])
	case api.SSet:
		b.set(s.E[0], s.E[1])
	case api.SIf:
		b.when(s)
	case api.SElse:
		b.either(s)
	case api.SWhile:
		b.while(s, begin)
	case api.SReturn:
		b.exprs(s.E)
		b.put(api.OpReturn, len(s.E))
	case api.SDo:
		b.alone(s.E[0])
	}
}

func (b *builder) set(place, e api.Expr) {
	b.exprs(place.Kids)
	b.expr(e)
	switch place.Kind {
	case api.EName:
		b.put(api.OpStore, b.slots[place.S])
	case api.EIndex:
		b.put(api.OpSetIndex, 0)
	case api.EField:
		b.put(api.OpSetField, b.text(place.S))
	}
}

func (b *builder) when(s api.Stmt) {
	b.expr(s.E[0])
	end := b.jump(api.OpUnless)
	b.row(s.Body)
	end()
}

func (b *builder) either(s api.Stmt) {
	b.expr(s.E[0])
	other := b.jump(api.OpUnless)
	b.row(s.Body)
	end := b.jump(api.OpJump)
	other()
	b.row(s.Else)
	end()
}

// while leads back to its mark, since each asking of the condition is a position.
func (b *builder) while(s api.Stmt, mark int) {
	b.expr(s.E[0])
	end := b.jump(api.OpUnless)
	b.row(s.Body)
	b.put(api.OpJump, mark)
	end()
}

// alone takes away what a call puts that nobody asked for.
func (b *builder) alone(call api.Expr) {
	b.expr(call)
	if b.puts(call.S) {
		b.put(api.OpPop, 0)
	}
}
