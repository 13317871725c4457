package travel

import (
	"fmt"
	"slices"
	"testing"

	"hindcast/api"
	"hindcast/compile"
	"hindcast/heap"
	"hindcast/vm"
)

func expect[T comparable](t *testing.T, what string, got, want T) {
	t.Helper()
	if got != want {
		t.Errorf("%.400s:\n got %.600v\nwant %.600v", what, got, want)
	}
}

func expectList(t *testing.T, what string, got []int, want ...int) {
	t.Helper()
	if !slices.Equal(got, want) {
		t.Errorf("%.400s: %v, not %v", what, got, want)
	}
}

// shown tells what is told as a text, in which nil and the empty list are the same.
func shown(x any) string { return fmt.Sprintf("%+v", x) }

// work is what a run is made of.
type work struct {
	name  string
	code  api.Code
	input []int
	lim   api.Limits
}

var wide = api.Limits{Steps: 5000, Heap: 4096, Frames: 64, Out: 4096}

// nine is the chapter's example, whose last position is 20.
const nine = "fn main() { let i = 0; while i < 9 { i = i + 1; } }"

func compiled(s string, lim api.Limits, input ...int) work {
	c, line, err := compile.Source(s)
	if err != api.OK {
		panic(fmt.Sprintf("the test is wrong: error %d in line %d of\n%s", err, line, s))
	}
	return work{s, c, input, lim}
}

// count tells a run with the last position 2n + 2.
func count(n int) work {
	return compiled(fmt.Sprintf("fn main() {\nlet i = 0;\nwhile i < %d {\ni = i + 1;\n}\n}", n), wide)
}

// written tells a run of main's instructions alone.
func written(name string, lim api.Limits, l ...api.Ins) work {
	u := api.Unit{Name: "main", Slots: 2, Stack: 4, Ins: l}
	return work{name, api.Code{Units: []api.Unit{u}}, nil, lim}
}

// atZero are runs that have ended at the position 0.
func atZero() []work {
	return []work{
		compiled("fn main() { }", wide),
		written("return", api.Limits{Steps: 1, Frames: 1}, api.Ins{Op: api.OpReturn}),
		written("no input", wide, api.Ins{Op: api.OpInput}, api.Ins{Op: api.OpStore}, api.Ins{Op: api.OpReturn}),
		written("quiet for too long", wide, api.Ins{Op: api.OpJump}),
	}
}

// faulty is a run, and the fault for which it ends.
type faulty struct {
	work
	fault api.Fault
}

// programs are runs of all sorts, each kind of end among them.
func programs() []faulty {
	const q = "record P { x: int, s: str, l: [int] } record Q { p: P, b: bool }\n"
	return []faulty{
		{compiled(nine, wide), 0},
		{compiled("fn main() { let x = 2; print(x + 1); }", api.Limits{Steps: 3, Frames: 1, Out: 2}), 0},
		{compiled("fn fac(n: int): int { if n < 2 { return 1; } return n * fac(n - 1); }\nfn main() { let i = 0; while i < 6 { print(\"fac\", i, fac(i)); i = i + 1; } }", wide), 0},
		{compiled("fn even(n: int): bool { if n == 0 { return true; } return !even(n - 1); }\nfn main() { let b = [even(3), even(6)]; print(\"a\\n\", b, b[0] == b[1]); }", wide), 0},
		{compiled(q+"fn set(q: Q, n: int): str { q.p.l[n] = q.p.x; q.b = !q.b; q.p.s = q.p.s + str(n); return q.p.s; }\nfn main() { let q = new Q(new P(-5, \"\", array(4, 0)), true);\nlet i = 0; while i < 4 { let s = set(q, i); print(i, s, q.b, q); i = i + 1; } }", wide), 0},
		{compiled("fn sum(l: [int]): int { let n = 0; let i = 0; while i < len(l) { n = n + l[i]; i = i + 1; } return n; }\nfn main() { let l = array(input(), 0); let i = 0; while i < len(l) { l[i] = input(); i = i + 1; } print(sum(l)); }", wide, 3, 10, -20, 1<<40), 0},
		{compiled("fn main() { let i = 5; while true { print(10 / i); i = i - 1; } }", wide), api.FaultDiv},
		{compiled("fn at(l: [[int]], i: int): int { return l[0][i]; }\nfn main() { let l = [[7, 8]]; let i = 0; while true { print(\"ab\", at(l, i)); i = i + 1; } }", wide), api.FaultIndex},
		{compiled("fn main() { let n = 3; while true { let l = array(n, true); n = n - 1; } }", wide), api.FaultSize},
		{compiled("fn main() { let s = \"ab\"; while true { s = s + s; print(len(s)); } }", wide), api.FaultText},
		{compiled("fn main() { while true { print(input()); } }", wide, 4, 5), api.FaultInput},
		{compiled("fn main() { let l = [1]; while true { l = [l[0], 2, 3]; } }", api.Limits{Steps: 90, Heap: 60, Frames: 2}), api.FaultHeap},
		{compiled("fn f(n: int, s: str): int { let k = n + 1; return 1 + f(k, str(n)); } fn main() { let a = 1; print(a, f(a, \"\")); }", api.Limits{Steps: 90, Frames: 17, Out: 99}), api.FaultFrames},
		{compiled("fn main() { while true { print(\"0123456789\"); } }", api.Limits{Steps: 90, Frames: 2, Out: 99}), api.FaultOut},
		{compiled("fn main() { let i = 0; while true { i = i + 1; } }", api.Limits{Steps: 50, Frames: 1}), api.FaultSteps},
		{written("a number that is asked for a truth", wide, api.Ins{Op: api.OpMark, A: 1}, api.Ins{Op: api.OpMark, A: 2}, api.Ins{Op: api.OpInt, A: 2}, api.Ins{Op: api.OpUnless}, api.Ins{Op: api.OpReturn}), api.FaultKind},
	}
}

// straight is what a machine tells at each position that is run straight through.
type straight struct{ looks, states, heaps []string }

func (s straight) last() int { return len(s.looks) - 1 }

func through(w work) straight {
	m, err := vm.New(w.code, w.input, w.lim)
	if err != api.OK {
		panic(fmt.Sprintf("the test is wrong: %s: %d", w.name, err))
	}
	var s straight
	for more := true; more; more = m.Step() {
		s.looks = append(s.looks, shown(m.Look()))
		s.states = append(s.states, shown(m.State()))
		s.heaps = append(s.heaps, heapShown(m.Heap()))
	}
	return s
}

func heapShown(h *heap.Heap) string { return fmt.Sprint(h.Used(), shown(h.All())) }

func mustNew(t *testing.T, w work, every, most int) *Run {
	t.Helper()
	r, err := New(w.code, w.input, w.lim, every, most)
	if err != api.OK || r == nil {
		t.Fatalf("%.300s: New(every %d, most %d): error %d, or no run", w.name, every, most, err)
	}
	return r
}

// model is a run by the chapter's words: it goes nowhere, but reckons where a run would stand, what it would have kept, and how many steps that would be.
type model struct {
	straight
	every, most int
	at, steps   int
	come, kept  map[int]bool
}

func newModel(s straight, every, most int) *model {
	return &model{straight: s, every: every, most: min(max(most, 1), 64), come: map[int]bool{0: true}, kept: map[int]bool{0: true}}
}

func (m *model) seek(pos int) int {
	to := min(max(pos, 0), m.last())
	from := m.at
	if to < from {
		from = m.below(to + 1)
	}
	for p := from + 1; p <= to; p++ {
		if !m.come[p] && p%m.every == 0 {
			m.keep(p)
		}
		m.come[p] = true
	}
	m.at, m.steps = to, m.steps+to-from
	return to
}

func (m *model) askLast() int {
	if !m.come[m.last()] {
		stood := m.at
		m.seek(m.last())
		m.seek(stood)
	}
	return m.last()
}

// below tells the greatest position that is kept below one.
func (m *model) below(pos int) int {
	best := -1
	for p := range m.kept {
		if p < pos {
			best = max(best, p)
		}
	}
	return best
}

// keep is what chapter 11 says of a store, where 0 is the least position, and there from the first on.
func (m *model) keep(pos int) {
	m.kept[pos] = true
	if len(m.kept) <= m.most {
		return
	}
	goes, nearest := pos, 0
	for _, p := range m.all() {
		far := p - m.below(p)
		if p != 0 && p != pos && (nearest == 0 || far < nearest) {
			goes, nearest = p, far
		}
	}
	delete(m.kept, goes)
}

func (m *model) all() []int {
	var l []int
	for p := range m.kept {
		l = append(l, p)
	}
	slices.Sort(l)
	return l
}

// expectSame holds all that a run tells against its model.
func expectSame(t *testing.T, what string, r *Run, m *model) {
	t.Helper()
	expect(t, what+": At", r.At(), m.at)
	expect(t, what+": Look", shown(r.Look()), m.looks[m.at])
	expect(t, what+": State", shown(r.State()), m.states[m.at])
	expect(t, what+": Heap", heapShown(r.Heap()), m.heaps[m.at])
	expectList(t, what+": Kept", r.Kept(), m.all()...)
	expect(t, what+": Steps", r.Steps(), m.steps)
	if t.Failed() {
		t.FailNow()
	}
}

// pair is a run and its model, that are sent to the same places.
type pair struct {
	t    *testing.T
	what string
	r    *Run
	m    *model
}

func newPair(t *testing.T, w work, s straight, every, most int) *pair {
	t.Helper()
	p := &pair{t, fmt.Sprintf("%.300s: every %d, most %d", w.name, every, most), mustNew(t, w, every, most), newModel(s, every, most)}
	expectSame(t, p.what, p.r, p.m)
	return p
}

// pairOf is a pair of a run that is gone through for it alone.
func pairOf(t *testing.T, w work, every, most int) *pair {
	t.Helper()
	return newPair(t, w, through(w), every, most)
}

func (p *pair) seek(l ...int) {
	p.t.Helper()
	for _, pos := range l {
		p.what = fmt.Sprint(p.what, ", Seek ", pos)
		expect(p.t, p.what, p.r.Seek(pos), p.m.seek(pos))
		expectSame(p.t, p.what, p.r, p.m)
	}
}

func (p *pair) last() {
	p.t.Helper()
	p.what += ", Last"
	expect(p.t, p.what, p.r.Last(), p.m.askLast())
	expectSame(p.t, p.what, p.r, p.m)
}
