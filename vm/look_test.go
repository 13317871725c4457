package vm

import (
	"fmt"
	"slices"
	"strings"
	"testing"
	"unsafe"

	"hindcast/api"
)

// P9.3: a look, frame by frame.
func TestLook(t *testing.T) {
	c := mustCompile(t, `record P { x: int }
fn f(a: int, p: P): int {
	let b = a * 2;
	print(b, p);
	p.x = b;
	return b;
}
fn main() {
	let x = 1;
	if x > 0 {
		let p = new P(7);
		x = f(x + 1, p);
	}
	print(x);
}`)
	m := mustNew(t, c, nil, most)
	bind := func(name string, v api.Val) api.Bind { return api.Bind{Name: name, Value: v} }
	frame := func(name string, line int, l ...api.Bind) api.Frame {
		return api.Frame{Func: name, Line: line, Vars: l}
	}
	x1, p := bind("x", num(1)), bind("p", ref(0))
	outside := frame("main", 12, x1, p)
	out := "4 P(7)\n"
	for pos, want := range []api.Look{
		{Frames: []api.Frame{frame("main", 9)}},
		{Frames: []api.Frame{frame("main", 10, x1)}},
		{Frames: []api.Frame{frame("main", 11, x1)}},
		{Frames: []api.Frame{frame("main", 12, x1, p)}},
		{Frames: []api.Frame{outside, frame("f", 3, bind("a", num(2)), p)}},
		{Frames: []api.Frame{outside, frame("f", 4, bind("a", num(2)), p, bind("b", num(4)))}},
		{Frames: []api.Frame{outside, frame("f", 5, bind("a", num(2)), p, bind("b", num(4)))}, Out: out},
		{Frames: []api.Frame{outside, frame("f", 6, bind("a", num(2)), p, bind("b", num(4)))}, Out: out},
		{Frames: []api.Frame{frame("main", 14, bind("x", num(4)))}, Out: out},
		{Status: api.Done, Out: out + "4\n"},
	} {
		want.Pos = pos
		expect(t, fmt.Sprint("position ", pos), shown(m.Look()), shown(want))
		expect(t, "Step", m.Step(), want.Status == api.Running)
	}
}

// P9.3: a variable is there from its first instruction on, up to its last one; the order is the unit's.
func TestVariables(t *testing.T) {
	c := codeOf(times(6, "mark 5") + "return")
	c.Units[0].Vars = []api.Var{
		{Name: "b", Slot: 3, From: 1, To: 3}, {Name: "a", Slot: 2, From: 2, To: 2}, {Name: "all", Slot: 0, From: 0, To: 7},
		{Name: "a", Slot: 3, From: 3, To: 4}, {Name: "b", Slot: 1, From: 2, To: 5}, {Name: "late", Slot: 4, From: 6, To: 7},
	}
	slots := append(vals(none, num(1), txt("two"), ref(0), boolean(1)), make([]api.Val, 27)...)
	s := api.State{Calls: []api.Called{{Slots: slots}}, Heap: []api.Obj{obj("P", num(1))}}
	m := mustLoad(t, c, nil, most, s)
	for at, want := range []string{"all", "b3 all", "b3 all b1", "all a3 b1", "all b1", "all"} {
		var got []string
		for _, v := range m.Look().Frames[0].Vars {
			got = append(got, strings.TrimSuffix(fmt.Sprint(v.Name, slices.Index(slots, v.Value)), "0"))
		}
		expect(t, fmt.Sprint("at ", at), strings.Join(got, " "), want)
		expect(t, "the line", m.Look().Frames[0].Line, 5)
		m.Step()
	}
	expect(t, "Done", shown(m.Look()), shown(api.Look{Pos: 6, Status: api.Done}))
}

// P9.3: a call without a mark has the line 0, and no variables; one that has gone over a mark has that one's.
func TestLookWithoutMark(t *testing.T) {
	c := codeOf("int 1; call 1; return", unit("f", 1, false, "load 0; neg; pop; int 0; int 0; div; pop; mark 4; return"))
	c.Units[0].Vars = []api.Var{{Name: "x", Slot: 0, From: 0, To: 3}}
	c.Units[1].Vars = []api.Var{{Name: "a", Slot: 0, From: 0, To: 9}}
	m := mustNew(t, c, nil, most)
	want := api.Look{Status: api.Faulty, Fault: api.FaultDiv, Frames: []api.Frame{{Func: "main"}, {Func: "f"}}}
	expect(t, "no marks", shown(m.Look()), shown(want))

	c.Units[0].Ins = asm("mark -9; int 1; call 1; return")
	m = mustNew(t, c, nil, most)
	m.Step()
	want.Pos = 1
	want.Frames[0] = api.Frame{Func: "main", Line: -9, Vars: []api.Bind{{Name: "x"}}}
	expect(t, "a mark in main", shown(m.Look()), shown(want))

	// The mark is the last one that was gone over, though the unit stands ahead of it.
	c = codeOf("jump 3; input; pop; mark 7; jump 1")
	c.Units[0].Vars = []api.Var{{Name: "x", Slot: 0, From: 3, To: 5}, {Name: "y", Slot: 0, From: 0, To: 3}}
	m = mustNew(t, c, nil, most)
	m.Step()
	want = api.Look{Pos: 1, Status: api.Faulty, Fault: api.FaultInput, Frames: []api.Frame{{Func: "main", Line: 7, Vars: []api.Bind{{Name: "x"}}}}}
	expect(t, "a mark further on", shown(m.Look()), shown(want))
}

// What is told is in memory of its own: what is done to it is nothing to the machine, or to another answer.
func TestToldAnew(t *testing.T) {
	c := mustCompile(t, "record P { x: int, s: str } fn f(a: P, s: str): int { let l = [a, a]; print(l, s + s); return f(a, \"t\"); } fn main() { let p = new P(1, \"u\"); f(p, \"abc\"); }")
	m := mustNew(t, c, nil, most)
	m.Run(6)
	look, state := m.Look(), m.State()
	wasLook, wasState := shown(look), shown(state)
	overwrite(look.Frames)
	for i := range state.Calls {
		overwrite(state.Calls[i].Slots)
		overwrite(state.Calls[i].Stack)
	}
	for i := range state.Heap {
		overwrite(state.Heap[i].Cells)
	}
	overwrite(state.Calls)
	overwrite(state.Heap)
	expect(t, "Look again", shown(m.Look()), wasLook)
	expect(t, "State again", shown(m.State()), wasState)

	second := m.Look()
	for i := range second.Frames {
		overwrite(second.Frames[i].Vars)
	}
	expect(t, "Look once more", shown(m.Look()), wasLook)

	seen := map[*byte]string{}
	for n := range 2 {
		look, state := m.Look(), m.State()
		noteTexts(t, seen, fmt.Sprint("look ", n), look.Out)
		for _, f := range look.Frames {
			noteTexts(t, seen, fmt.Sprint("look ", n), f.Func)
			for _, v := range f.Vars {
				noteTexts(t, seen, fmt.Sprint("look ", n), v.Name, v.Value.S)
			}
		}
		noteTexts(t, seen, fmt.Sprint("state ", n), state.Out)
		for _, x := range state.Calls {
			for _, v := range slices.Concat(x.Slots, x.Stack) {
				noteTexts(t, seen, fmt.Sprint("state ", n), v.S)
			}
		}
		for _, o := range state.Heap {
			noteTexts(t, seen, fmt.Sprint("state ", n), o.Tag)
		}
	}
	for _, s := range c.Strs {
		noteTexts(t, seen, "the code", s)
	}
	for _, u := range c.Units {
		noteTexts(t, seen, "the code", u.Name)
		for _, v := range u.Vars {
			noteTexts(t, seen, "the code", v.Name)
		}
	}
}

func overwrite[T any](l []T) {
	var zero T
	for i := range l {
		l[i] = zero
	}
}

// noteTexts demands that texts, of which there is something, are in memory that no other one is in.
func noteTexts(t *testing.T, seen map[*byte]string, what string, texts ...string) {
	t.Helper()
	for _, s := range texts {
		if len(s) == 0 {
			continue
		}
		at := unsafe.StringData(s)
		if other, is := seen[at]; is {
			t.Errorf("%s: %q is in the same memory as one of %s", what, s, other)
		}
		seen[at] = what
	}
}
