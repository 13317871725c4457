package travel

import (
	"slices"
	"testing"

	"hindcast/api"
)

// rich is a run whose code has texts, shapes, several units and variables, with input.
func rich() work {
	return compiled("record P { x: int, s: str }\nfn set(p: P, n: int): str { p.x = p.x + n; p.s = p.s + \"ab\"; return p.s; }\nfn main() { let p = new P(input(), \"\"); let l = [p, p]; let i = 0; while i < 5 { let s = set(l[1], input()); print(i, \"cd\", s, p); i = i + 1; } }", wide, 1, 2, 3, 4, 5, 6)
}

// withRoom tells a list with room behind its end, in which others stand.
func withRoom[T any](l []T, other T) []T {
	return slices.Concat(l, []T{other, other, other})[:len(l)]
}

// roomy tells the same work, all lists with room.
func roomy(w work) work {
	c := w.code
	c.Strs = withRoom(c.Strs, "behind")
	c.Shapes = withRoom(c.Shapes, api.Shape{Name: "behind"})
	for i, s := range c.Shapes {
		c.Shapes[i].Fields = withRoom(s.Fields, "behind")
	}
	c.Units = withRoom(c.Units, api.Unit{Name: "behind"})
	for i, u := range c.Units {
		c.Units[i].Ins = withRoom(u.Ins, api.Ins{Op: 99})
		c.Units[i].Vars = withRoom(u.Vars, api.Var{Name: "behind"})
	}
	w.code, w.input = c, withRoom(w.input, -99)
	return w
}

// whole tells all of a work, with what stands behind its lists' ends.
func whole(w work) string {
	s := shown(w.code.Strs[:cap(w.code.Strs)]) + shown(w.code.Shapes[:cap(w.code.Shapes)]) + shown(w.code.Units[:cap(w.code.Units)]) + shown(w.input[:cap(w.input)])
	for _, x := range w.code.Shapes {
		s += shown(x.Fields[:cap(x.Fields)])
	}
	for _, u := range w.code.Units {
		s += shown(u.Ins[:cap(u.Ins)]) + shown(u.Vars[:cap(u.Vars)])
	}
	return s
}

// clearAll makes all that a work's lists have another.
func clearAll(w work) {
	clear(w.input)
	clear(w.code.Strs)
	for _, s := range w.code.Shapes {
		clear(s.Fields)
	}
	clear(w.code.Shapes)
	for _, u := range w.code.Units {
		clear(u.Ins)
		clear(u.Vars)
	}
	clear(w.code.Units)
}

// What is handed in is not changed, with what stands behind the lists' ends, whatever is done to the run.
func TestHandedInUnchanged(t *testing.T) {
	w := roomy(rich())
	was := whole(w)
	p := pairOf(t, w, 3, 4)
	p.seek(9, 2, 99, 17, 0, 5)
	p.last()
	p.seek(99, 8)
	expect(t, "what was handed in", whole(w), was)
}

// What is handed in is not kept: a run goes forth and back as it would have gone, though that is another then.
func TestHandedInNotKept(t *testing.T) {
	s := through(rich())
	for from := range s.last() + 1 {
		w := roomy(rich())
		p := newPair(t, w, s, 3, 4)
		p.seek(from)
		clearAll(w)
		p.seek(from+4, from-2, from+1)
		p.last()
		for pos := s.last(); pos >= 0; pos -= 3 {
			p.seek(pos)
		}
	}
}

// spoil changes all that a run tells, which is its asker's.
func spoil(r *Run) {
	look, state, kept, h := r.Look(), r.State(), r.Kept(), r.Heap()
	for _, f := range look.Frames {
		clear(f.Vars)
	}
	clear(look.Frames)
	for _, c := range state.Calls {
		clear(c.Slots)
		clear(c.Stack)
	}
	clear(state.Calls)
	for _, o := range state.Heap {
		clear(o.Cells)
	}
	clear(state.Heap)
	for i := range kept[:cap(kept)] {
		kept[:cap(kept)][i] = 7
	}
	for i, o := range h.All() {
		for n := range o.Cells {
			h.Set(api.Val{Kind: api.VRef, N: i}, n, api.Val{Kind: api.VStr, S: "other"})
		}
	}
	h.Alloc("", []api.Val{{Kind: api.VInt, N: 1}})
}

// What is told may be changed: the run, what it kept and what it tells later stay as they were.
func TestToldApart(t *testing.T) {
	w := rich()
	s := through(w)
	for _, most := range []int{1, 3, 64} {
		p := newPair(t, w, s, 2, most)
		for pos := range s.last() + 1 {
			spoil(p.r)
			expectSame(t, p.what+": told and changed", p.r, p.m)
			p.seek(pos)
			spoil(p.r)
			p.seek(pos+1, pos-1, pos)
		}
		spoil(p.r)
		p.last()
	}
}

// What was told stays as it was, wherever the run goes later.
func TestToldStays(t *testing.T) {
	w := rich()
	s := through(w)
	r := mustNew(t, w, 2, 3)
	r.Seek(12)
	look, state, kept, h := r.Look(), r.State(), r.Kept(), r.Heap()
	was := shown(kept)
	for _, pos := range []int{13, 14, 99, 0, 5, 12, 11} {
		r.Seek(pos)
		r.Last()
		expect(t, "a look", shown(look), s.looks[12])
		expect(t, "a state", shown(state), s.states[12])
		expect(t, "what was kept", shown(kept), was)
		expect(t, "a heap", heapShown(h), s.heaps[12])
	}
}

// What is done to one run is not done to another, of the same work.
func TestRunsApart(t *testing.T) {
	w := rich()
	s := through(w)
	a, b := newPair(t, w, s, 2, 3), newPair(t, w, s, 5, 64)
	for i := range 12 {
		a.seek(3*i, i)
		b.seek(30-2*i, i+1)
		a.seek(2 * i)
		if i == 7 {
			b.last()
		}
	}
	a.last()
	expectSame(t, "the other", b.r, b.m)
}

// At, Look, State, Heap, Kept and Steps change nothing: a run that is never asked comes to the same.
func TestAskedOrNot(t *testing.T) {
	w := rich()
	asked, quiet := mustNew(t, w, 3, 3), mustNew(t, w, 3, 3)
	for _, pos := range []int{4, 9, 2, 30, 7, 7, 99, 0, 18} {
		for range 3 {
			asked.At()
			asked.Look()
			asked.State()
			asked.Heap()
			asked.Kept()
			asked.Steps()
		}
		asked.Seek(pos)
		quiet.Seek(pos)
	}
	expect(t, "Steps", asked.Steps(), quiet.Steps())
	expectList(t, "Kept", asked.Kept(), quiet.Kept()...)
	expect(t, "State", shown(asked.State()), shown(quiet.State()))
}
