package debug

import (
	"fmt"
	"maps"
	"slices"
	"strings"
	"testing"

	"hindcast/api"
	"hindcast/compile"
	"hindcast/eval"
	"hindcast/heap"
	"hindcast/syntax"
	"hindcast/vm"
)

func expect[T comparable](t *testing.T, what string, got, want T) {
	t.Helper()
	if got != want {
		t.Errorf("%.900s:\n got %.900s\nwant %.900s", what, told(got), told(want))
	}
}

// told tells what is told as a text, in which nil and the empty list are the same.
func told(x any) string { return fmt.Sprintf("%+v", x) }

func heapTold(h *heap.Heap) string { return fmt.Sprint(h.Used(), told(h.All())) }

// work is what a run is made of.
type work struct {
	name  string
	code  api.Code
	input []int
	lim   api.Limits
}

var wide = api.Limits{Steps: 5000, Heap: 4096, Frames: 64, Out: 4096}

// compiled tells the work of a program of these lines.
func compiled(lim api.Limits, input []int, lines ...string) work {
	s := strings.Join(lines, "\n")
	c, line, err := compile.Source(s)
	if err != api.OK {
		panic(fmt.Sprintf("the test is wrong: error %d in line %d of\n%s", err, line, s))
	}
	return work{s, c, input, lim}
}

// written tells the work of units that are written as instructions.
func written(name string, lim api.Limits, units ...api.Unit) work {
	for i := range units {
		units[i].Stack = 4
	}
	return work{name, api.Code{Units: units}, nil, lim}
}

func ins(op api.Op, a int) api.Ins { return api.Ins{Op: op, A: a} }

// example is that of the chapter: 2 i, 3 while, 4 i, 6 print; positions 0 to 9.
func example() work {
	return compiled(wide, nil, "fn main() {", "let i = 0;", "while i < 3 {", "i = i + 1;", "}", "print(i);", "}")
}

// deep calls g from f, and f from main, twice; positions 0 to 15, of the depths 1 1 2 2 3 3 2 1 2 2 3 3 2 1 1, and 1 where it is done.
func deep() work {
	return compiled(wide, nil,
		"fn g(n: int): int {", "let m = n * 2;", "return m;", "}",
		"fn f(n: int): int {", "let a = n + 1;", "let b = g(a);", "return b;", "}",
		"fn main() {", "let i = 0;", "i = f(1);", "i = i + f(2);", "print(i);", "let k = i;", "}")
}

// count tells a run with the last position 2n + 2.
func count(n int) work {
	return compiled(wide, nil, "fn main() {", "let i = 0;", fmt.Sprintf("while i < %d {", n), "i = i + 1;", "}", "}")
}

// falls ends for a fault within f, at the depth 2: positions 0 to 6.
func falls() work {
	return compiled(wide, nil, "fn f(n: int): int {", "let m = 6 / n;", "return m;", "}", "fn main() {", "let i = 1;", "let k = f(i);", "i = f(i - 1);", "print(i);", "}")
}

// atZero are runs that have ended at the position 0.
func atZero() []work {
	return []work{
		compiled(wide, nil, "fn main() {", "}"),
		written("return", api.Limits{Steps: 1, Frames: 1}, api.Unit{Name: "main", Ins: []api.Ins{ins(api.OpReturn, 0)}}),
		written("no input", wide, api.Unit{Name: "main", Slots: 1, Ins: []api.Ins{ins(api.OpInput, 0), ins(api.OpStore, 0), ins(api.OpReturn, 0)}}),
	}
}

// unmarked calls f from where no mark stands; f has marks whose lines no source has, and a variable that is there at two of them.
func unmarked() work {
	main := api.Unit{Name: "main", Ins: []api.Ins{ins(api.OpCall, 1), ins(api.OpMark, 2), ins(api.OpCall, 1), ins(api.OpReturn, 0)}}
	f := api.Unit{Name: "f", Slots: 1, Vars: []api.Var{{Name: "i", Slot: 0, From: 3, To: 5}}, Ins: []api.Ins{
		ins(api.OpMark, 0), ins(api.OpInt, 1), ins(api.OpStore, 0), ins(api.OpMark, -5), ins(api.OpMark, 1<<40), ins(api.OpMark, 2), ins(api.OpReturn, 0)}}
	return written("calls without marks", wide, main, f)
}

// works are runs of all sorts, with calls, loops, faults and no end.
func works() []work {
	const records = "record P { x: int, s: str, l: [int] } record Q { p: P, b: bool }"
	small := api.Limits{Steps: 90, Heap: 60, Frames: 17, Out: 99}
	l := []work{
		example(), deep(), falls(), unmarked(),
		compiled(wide, nil, "fn f(n: int): int {", "if n < 2 {", "return 1;", "}", "let k = f(n - 1);", "return n * k;", "}",
			"fn main() {", "let i = 0;", "while i < 5 {", "print(i, f(i));", "i = i + 1;", "}", "}"),
		compiled(wide, nil, "fn even(n: int): bool {", "if n == 0 { return true; }", "return odd(n - 1);", "}",
			"fn odd(n: int): bool { if n == 0 { return false; }", "return even(n - 1); }",
			"fn main() { let b = [even(3), odd(5)];", "print(\"a\\n\", b, b[0] == b[1]); }"),
		compiled(wide, nil, records, "fn set(q: Q, n: int): str {", "q.p.l[n] = q.p.x;", "q.b = !q.b;", "q.p.s = q.p.s + str(n);", "return q.p.s;", "}",
			"fn main() {", "let q = new Q(new P(-5, \"\", array(4, 0)), true);", "let p = q.p;", "let i = 0;", "while i < 4 {", "let s = set(q, i);", "print(i, s, q.b, q);", "i = i + 1;", "}", "}"),
		compiled(wide, []int{3, 10, -20, 1 << 40}, "fn sum(l: [int]): int {", "let n = 0; let i = 0;", "while i < len(l) {", "n = n + l[i]; i = i + 1;", "}", "return n;", "}",
			"fn main() {", "let l = array(input(), 0);", "let i = 0;", "while i < len(l) {", "l[i] = input();", "i = i + 1;", "}", "print(sum(l));", "}"),
		compiled(wide, nil, "fn no() { }", "fn one(n: int) { print(n); }", "fn main() {", "no();", "let i = 2;", "while i > 0 {", "no(); one(i);", "i = i - 1;", "}", "}"),
		compiled(wide, nil, "fn main() {", "let i = 3;", "while true {", "print(6 / i);", "i = i - 1;", "}", "}"),
		compiled(wide, nil, "fn at(l: [[int]], i: int): int {", "return l[0][i];", "}", "fn main() {", "let l = [[7, 8]];", "let i = 0;", "while true {", "print(\"ab\", at(l, i));", "i = i + 1;", "}", "}"),
		compiled(wide, nil, "fn main() {", "let s = \"ab\";", "while true {", "s = s + s;", "let n = len(s);", "}", "}"),
		compiled(wide, []int{4, 5}, "fn main() {", "while true {", "let n = input();", "print(n);", "}", "}"),
		compiled(small, nil, "fn main() {", "let l = [1];", "while true {", "l = [l[0], 2, 3];", "}", "}"),
		compiled(small, nil, "fn f(n: int, s: str): int {", "let k = n + 1;", "return 1 + f(k, str(n));", "}", "fn main() {", "let i = 1;", "print(i, f(i, \"\"));", "}"),
		compiled(small, nil, "fn main() {", "while true {", "print(\"0123456789\");", "}", "}"),
		compiled(api.Limits{Steps: 50, Frames: 2}, nil, "fn f(n: int): int {", "return n + 1;", "}", "fn main() {", "let i = 0;", "while true {", "i = f(i);", "}", "}"),
		compiled(api.Limits{Steps: 5, Frames: 1}, nil, "fn main() {", "while true { }", "}"),
	}
	return append(l, atZero()...)
}

// way is all positions of a run, each as a machine comes to it that is run straight.
type way struct {
	looks  []api.Look
	heaps  []*heap.Heap
	shapes []api.Shape
}

func through(w work) *way {
	m, err := vm.New(w.code, w.input, w.lim)
	if err != api.OK {
		panic(fmt.Sprintf("the test is wrong: %s: %d", w.name, err))
	}
	y := &way{shapes: w.code.Shapes}
	for more := true; more; more = m.Step() {
		y.looks = append(y.looks, m.Look())
		y.heaps = append(y.heaps, m.Heap())
	}
	return y
}

func (y *way) last() int { return len(y.looks) - 1 }

// depth counts the frames, by their status.
func (y *way) depth(at int) int {
	if y.looks[at].Status == api.Done {
		return 1
	}
	return len(y.looks[at].Frames)
}

// innermost tells the frames from within; so Sel counts them.
func (y *way) innermost(at int) []api.Frame {
	l := slices.Clone(y.looks[at].Frames)
	slices.Reverse(l)
	return l
}

// comes tells what a text comes to in a frame, by its tree.
func (y *way) comes(s string, at, sel int) (api.Val, api.Errno) {
	x, _, err := syntax.Expr(s)
	if err != api.OK {
		return api.Val{}, err
	}
	var vars []api.Bind
	if l := y.innermost(at); len(l) > 0 {
		vars = l[sel].Vars
	}
	return eval.Eval(x, vars, y.heaps[at], y.shapes)
}

// shown tells how that is shown; ? of an error.
func (y *way) shown(s string, at int) string {
	v, err := y.comes(s, at, 0)
	if err != api.OK {
		return "?"
	}
	return y.heaps[at].Show(v)
}

// model is a debugger by the chapter's words: it has all positions before it, and looks through all of them each time.
type model struct {
	*way
	at, sel, next int
	stops         map[int]api.Stop
	reply         api.Reply
}

func newModel(y *way) *model { return &model{way: y, next: 1, stops: map[int]api.Stop{}} }

func (m *model) table() []api.Stop {
	var l []api.Stop
	for _, id := range slices.Sorted(maps.Keys(m.stops)) {
		l = append(l, m.stops[id])
	}
	return l
}

func (m *model) stopsAt(at int) bool {
	for _, s := range m.stops {
		if s.Off {
			continue
		}
		if s.Watch != "" {
			if at > 0 && m.shown(s.Watch, at) != m.shown(s.Watch, at-1) {
				return true
			}
			continue
		}
		frames := m.innermost(at)
		if len(frames) == 0 || frames[0].Line != s.Line {
			continue
		}
		if v, err := m.comes(s.Cond, at, 0); s.Cond == "" || err == api.OK && v == (api.Val{Kind: api.VBool, N: 1}) {
			return true
		}
	}
	return false
}

// those tells the positions of which it is so.
func (m *model) those(is func(at int) bool) []int {
	var l []int
	for at := range m.looks {
		if is(at) {
			l = append(l, at)
		}
	}
	return l
}

// isMeant tells whether a move that is no Goto may lead to a position, be it further on or ahead.
func (m *model) isMeant(k api.CmdKind, at int) bool {
	switch k {
	case api.CmdNext, api.CmdBackNext:
		return m.depth(at) <= m.depth(m.at)
	case api.CmdFinish, api.CmdBackFinish:
		return m.depth(at) < m.depth(m.at)
	case api.CmdContinue, api.CmdBackContinue:
		return m.stopsAt(at)
	}
	return true
}

func (m *model) move(c api.Cmd) api.Errno {
	to := c.N
	switch {
	case c.Kind == api.CmdGoto && c.N < 0:
		return api.ErrArg
	case c.Kind == api.CmdGoto && c.N > m.last():
		return api.ErrEnd
	case c.Kind == api.CmdGoto:
	case c.Kind <= api.CmdContinue:
		if m.at == m.last() {
			return api.ErrEnd
		}
		to = append(m.those(func(at int) bool { return at > m.at && m.isMeant(c.Kind, at) }), m.last())[0]
	default:
		if m.at == 0 {
			return api.ErrEnd
		}
		l := append([]int{0}, m.those(func(at int) bool { return at < m.at && m.isMeant(c.Kind, at) })...)
		to = l[len(l)-1]
	}
	m.at, m.sel = to, 0
	return api.OK
}

// wants are the fields that a kind of command has.
var wants = map[api.CmdKind]string{
	1: "", 2: "", 3: "", 4: "", 5: "", 6: "", 7: "", 8: "", 9: "N", 10: "NS", 11: "S", 12: "N", 13: "N", 14: "N", 15: "", 16: "", 17: "S",
}

func isCommand(c api.Cmd) bool {
	fields, is := wants[c.Kind]
	return is && (c.N == 0 || strings.Contains(fields, "N")) && (c.S == "" || strings.Contains(fields, "S"))
}

func (m *model) add(s api.Stop, text string) api.Reply {
	if _, _, err := syntax.Expr(text); err != api.OK {
		return api.Reply{Err: err}
	}
	if len(m.stops) == 16 || m.next == 1<<31-1 {
		return api.Reply{Err: api.ErrFull}
	}
	s.Id = m.next
	m.stops[s.Id] = s
	m.next++
	return api.Reply{N: s.Id}
}

// turn does what Delete, Enable and Disable ask.
func (m *model) turn(c api.Cmd) api.Errno {
	s, is := m.stops[c.N]
	if !is {
		return api.ErrNone
	}
	s.Off = c.Kind == api.CmdDisable
	m.stops[c.N] = s
	if c.Kind == api.CmdDelete {
		delete(m.stops, c.N)
	}
	return api.OK
}

func (m *model) print(s string) api.Reply {
	v, err := m.comes(s, m.at, m.sel)
	if err != api.OK {
		return api.Reply{Err: err}
	}
	return api.Reply{Says: m.heaps[m.at].Show(v)}
}

func (m *model) answer(c api.Cmd) api.Reply {
	if !isCommand(c) {
		return api.Reply{Err: api.ErrArg}
	}
	switch c.Kind {
	case api.CmdBreak:
		if c.N <= 0 {
			return api.Reply{Err: api.ErrArg}
		}
		text := c.S
		if text == "" {
			text = "true"
		}
		return m.add(api.Stop{Line: c.N, Cond: c.S}, text)
	case api.CmdWatch:
		return m.add(api.Stop{Watch: c.S}, c.S)
	case api.CmdDelete, api.CmdEnable, api.CmdDisable:
		return api.Reply{Err: m.turn(c)}
	case api.CmdUp:
		if m.sel+1 >= len(m.looks[m.at].Frames) {
			return api.Reply{Err: api.ErrNone}
		}
		m.sel++
		return api.Reply{}
	case api.CmdDown:
		if m.sel == 0 {
			return api.Reply{Err: api.ErrNone}
		}
		m.sel--
		return api.Reply{}
	case api.CmdPrint:
		return m.print(c.S)
	}
	return api.Reply{Err: m.move(c)}
}

func (m *model) do(c api.Cmd) api.Reply {
	m.reply = m.answer(c)
	return m.reply
}

func (m *model) view() api.View {
	return api.View{Look: m.looks[m.at], Sel: m.sel, Stops: m.table(), Last: m.reply}
}

func (m *model) saved() api.Saved {
	return api.Saved{Pos: m.at, Sel: m.sel, Stops: m.table(), Next: m.next, Last: m.reply}
}

// expectSame holds all that a debugger tells against its model.
func expectSame(t *testing.T, what string, d *Debugger, m *model) {
	t.Helper()
	expect(t, what+": View", told(d.View()), told(m.view()))
	expect(t, what+": Save", told(d.Save()), told(m.saved()))
	expect(t, what+": Heap", heapTold(d.Heap()), heapTold(m.heaps[m.at]))
	if t.Failed() {
		t.FailNow()
	}
}

func mustNew(t *testing.T, w work, every, most int) *Debugger {
	t.Helper()
	d, err := New(w.code, w.input, w.lim, every, most)
	if err != api.OK || d == nil {
		t.Fatalf("%.300s: New: error %d, or no debugger", w.name, err)
	}
	return d
}

func mustLoad(t *testing.T, w work, every, most int, s api.Saved) *Debugger {
	t.Helper()
	d, err := Load(w.code, w.input, w.lim, every, most, s)
	if err != api.OK || d == nil {
		t.Fatalf("%.300s: Load of %s: error %d, or no debugger", w.name, told(s), err)
	}
	return d
}

func refuseLoad(t *testing.T, w work, every int, s api.Saved, want api.Errno) {
	t.Helper()
	if d, err := Load(w.code, w.input, w.lim, every, 3, s); d != nil || err != want {
		t.Errorf("%.300s: Load of %s: error %d, or a debugger, not error %d", w.name, told(s), err, want)
	}
}

// pair is a debugger and its model, that are asked the same.
type pair struct {
	t    *testing.T
	what string
	d    *Debugger
	m    *model
}

func newPair(t *testing.T, w work, y *way, every, most int) *pair {
	t.Helper()
	p := &pair{t, fmt.Sprintf("%.300s: every %d, most %d", w.name, every, most), mustNew(t, w, every, most), newModel(y)}
	expectSame(t, p.what, p.d, p.m)
	return p
}

// pairOf is a pair of a run that is gone through for it alone.
func pairOf(t *testing.T, w work) *pair {
	t.Helper()
	return newPair(t, w, through(w), 3, 4)
}

func (p *pair) do(l ...api.Cmd) {
	p.t.Helper()
	for _, c := range l {
		p.what = fmt.Sprintf("%s, %s", p.what, told(c))
		if len(p.what) > 900 { // the last ones tell most
			p.what = p.what[:300] + " .." + p.what[len(p.what)-500:]
		}
		expect(p.t, p.what, p.d.Do(c), p.m.do(c))
		expectSame(p.t, p.what, p.d, p.m)
	}
}

// expectAt says what the words come to here, so that they are not the model's alone.
func (p *pair) expectAt(c api.Cmd, want api.Reply, at int) {
	p.t.Helper()
	p.do(c)
	expect(p.t, p.what+": the reply", p.d.View().Last, want)
	expect(p.t, p.what+": the cursor", p.d.View().Look.Pos, at)
}

func cmd(k api.CmdKind) api.Cmd              { return api.Cmd{Kind: k} }
func gotoCmd(n int) api.Cmd                  { return api.Cmd{Kind: api.CmdGoto, N: n} }
func breakCmd(line int, cond string) api.Cmd { return api.Cmd{Kind: api.CmdBreak, N: line, S: cond} }
func watchCmd(s string) api.Cmd              { return api.Cmd{Kind: api.CmdWatch, S: s} }
func printCmd(s string) api.Cmd              { return api.Cmd{Kind: api.CmdPrint, S: s} }
func idCmd(k api.CmdKind, id int) api.Cmd    { return api.Cmd{Kind: k, N: id} }

func failed(e api.Errno) api.Reply { return api.Reply{Err: e} }

var fine api.Reply
