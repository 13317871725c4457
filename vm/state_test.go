package vm

import (
	"fmt"
	"slices"
	"strings"
	"testing"

	"hindcast/api"
	"hindcast/heap"
)

// nested is a code whose run has calls within one another, objects, output and input, and a stack that is not empty where it calls.
func nested() api.Code {
	c := codeOf("mark 1; str 4; int 2; call 1; print 2; mark 2; call 2; input; store 0; mark 3; mark 4; return",
		unit("pair", 1, true, "mark 10; load 0; input; array 2; store 1; mark 11; int 9; load 1; call 3; mul; store 2; mark 12; load 1; return 1"),
		unit("quiet", 0, false, "int 5; print 1; return; mark 99; call 2; return"),
		unit("first", 1, true, "jump 2; mark 98; load 0; int 0; index; store 1; mark 20; load 1; return 1"))
	c.Units[1].Slots, c.Units[3].Slots, c.Units[0].Slots, c.Units[2].Slots = 3, 2, 1, 0
	return c
}

// P9.4, P9.6: the state of each position of a run, one that is Done and such as end for faults, and a machine that is loaded of it.
func TestStates(t *testing.T) {
	all := expectRun(t, "a run that is done", nested(), []int{7, 8}, most)
	expect(t, "how many positions", len(all), 9)
	last := all[len(all)-1]
	expect(t, "Done", shown(last), shown(api.State{Pos: 8, Status: api.Done, Heap: []api.Obj{obj("", num(2), num(7))}, Out: "ab [2, 7]\n5\n", Read: 2}))
	within := all[3]
	expect(t, "a position within calls", shown(within), shown(api.State{Pos: 3, Heap: []api.Obj{obj("", num(2), num(7))}, Read: 1, Calls: []api.Called{
		{Unit: 0, At: 4, Mark: 0, Slots: vals(none), Stack: vals(txt("ab"))},
		{Unit: 1, At: 9, Mark: 5, Slots: vals(num(2), ref(0), none), Stack: vals(num(9))},
		{Unit: 3, At: 6, Mark: 6, Slots: vals(ref(0), num(2))},
	}}))
	for fault, x := range map[api.Fault]struct {
		input []int
		lim   api.Limits
	}{
		api.FaultInput:  {[]int{7}, most},
		api.FaultFrames: {[]int{7, 8}, api.Limits{Steps: 99, Heap: 9, Frames: 2, Out: 99}},
		api.FaultHeap:   {[]int{7, 8}, api.Limits{Steps: 99, Heap: 2, Frames: 3, Out: 99}},
		api.FaultOut:    {[]int{7, 8}, api.Limits{Steps: 99, Heap: 9, Frames: 3, Out: 11}},
		api.FaultSteps:  {[]int{7, 8}, api.Limits{Steps: 7, Heap: 9, Frames: 3, Out: 99}},
	} {
		all := expectRun(t, fmt.Sprint("fault ", fault), nested(), x.input, x.lim)
		expect(t, "the fault", all[len(all)-1].Fault, fault)
	}
}

// P9.4: states that may not be, one for each of the chapter's words; beside each of them such as may be, at the edge.
func TestLoadErrors(t *testing.T) {
	c := nested()
	input := []int{7, 8}
	lim := api.Limits{Steps: 50, Heap: 3, Frames: 3, Out: 12}
	all := expectRun(t, "the run", c, input, lim)
	base := all[3] // main, pair and first, the innermost at its second mark
	ended := all[len(all)-1]
	faulty := changed(base, func(s *api.State) { s.Status, s.Fault = api.Faulty, api.FaultIndex })
	last := func(s *api.State) *api.Called { return &s.Calls[len(s.Calls)-1] }
	for _, x := range []struct {
		what string
		from api.State
		is   bool
		do   func(s *api.State)
	}{
		{"as it was", base, true, func(s *api.State) {}},
		{"Pos -1", base, false, func(s *api.State) { s.Pos = -1 }},
		{"Pos 0", base, true, func(s *api.State) { s.Pos = 0 }},
		{"Pos ahead of Steps", base, true, func(s *api.State) { s.Pos = 49 }},
		{"Running, and Pos is Steps", base, false, func(s *api.State) { s.Pos = 50 }},
		{"Faulty, and Pos is Steps", faulty, true, func(s *api.State) { s.Pos = 50 }},
		{"Done, and Pos is Steps", ended, true, func(s *api.State) { s.Pos = 50 }},
		{"Done, and Pos is 0", ended, true, func(s *api.State) { s.Pos = 0 }},
		{"Running, and Pos behind Steps", base, false, func(s *api.State) { s.Pos = 51 }},
		{"Faulty, and Pos behind Steps", faulty, false, func(s *api.State) { s.Pos = 51 }},
		{"Done, and Pos behind Steps", ended, false, func(s *api.State) { s.Pos = 51 }},
		{"Done, and Pos -1", ended, false, func(s *api.State) { s.Pos = -1 }},
		{"Faulty, and Pos -1", faulty, false, func(s *api.State) { s.Pos = -1 }},

		{"a status above", base, false, func(s *api.State) { s.Status = 3 }},
		{"a status above, and no calls", ended, false, func(s *api.State) { s.Status = 3 }},
		{"a status above, and a fault", faulty, false, func(s *api.State) { s.Status = 3 }},
		{"a status below", base, false, func(s *api.State) { s.Status = -1 }},
		{"Running with a fault", base, false, func(s *api.State) { s.Fault = api.FaultDiv }},
		{"Done with a fault", ended, false, func(s *api.State) { s.Fault = api.FaultKind }},
		{"Faulty without a fault", faulty, false, func(s *api.State) { s.Fault = api.NoFault }},
		{"Faulty for the first fault", faulty, true, func(s *api.State) { s.Fault = 1 }},
		{"Faulty for the last fault", faulty, true, func(s *api.State) { s.Fault = 10 }},
		{"Faulty for what is no fault", faulty, false, func(s *api.State) { s.Fault = 11 }},
		{"Faulty for a fault below 0", faulty, false, func(s *api.State) { s.Fault = -1 }},

		{"Done with a call", ended, false, func(s *api.State) { s.Calls = all[0].Calls }},
		{"Done, made of one within calls", base, false, func(s *api.State) { s.Status = api.Done }},
		{"Running without a call", base, false, func(s *api.State) { s.Calls = nil }},
		{"Faulty without a call", faulty, false, func(s *api.State) { s.Calls = nil }},
		{"the outermost alone", base, false, func(s *api.State) { s.Calls = s.Calls[:1] }},
		{"not the innermost", base, false, func(s *api.State) { s.Calls = s.Calls[:2] }},
		{"not the outermost", base, false, func(s *api.State) { s.Calls = s.Calls[1:] }},
		{"one in the midst missing", base, false, func(s *api.State) { s.Calls = slices.Delete(s.Calls, 1, 2) }},
		{"two in each other's place", base, false, func(s *api.State) { s.Calls[0], s.Calls[1] = s.Calls[1], s.Calls[0] }},

		{"a unit below 0", base, false, func(s *api.State) { last(s).Unit = -1 }},
		{"a unit behind the last", base, false, func(s *api.State) { last(s).Unit = 4 }},
		{"an outer unit behind the last", base, false, func(s *api.State) { s.Calls[1].Unit = 4 }},
		{"an outermost unit below 0", base, false, func(s *api.State) { s.Calls[0].Unit = -1 }},
		{"At -1", faulty, false, func(s *api.State) { last(s).At = -1 }},
		{"At behind the last", faulty, false, func(s *api.State) { last(s).At = 9 }},
		{"At of an outer one below 0", base, false, func(s *api.State) { s.Calls[0].At = -1 }},
		{"At of an outer one 0", base, false, func(s *api.State) { s.Calls[0].At = 0 }},
		{"At of an outer one behind the last", base, false, func(s *api.State) { s.Calls[1].At = 14 }},
		{"Mark -2", faulty, false, func(s *api.State) { last(s).Mark = -2 }},
		{"Mark -1", faulty, true, func(s *api.State) { last(s).Mark = -1 }},
		{"Mark behind the last", faulty, false, func(s *api.State) { last(s).Mark = 9 }},
		{"Mark where no mark is", faulty, false, func(s *api.State) { last(s).Mark = 5 }},
		{"Mark that nobody comes to", faulty, true, func(s *api.State) { last(s).Mark = 1 }},
		{"an outer Mark -1", base, true, func(s *api.State) { s.Calls[0].Mark = -1 }},
		{"an outer Mark -2", base, false, func(s *api.State) { s.Calls[0].Mark = -2 }},
		{"an outer Mark elsewhere", base, true, func(s *api.State) { s.Calls[1].Mark = 11 }},
		{"an outer Mark where no mark is", base, false, func(s *api.State) { s.Calls[1].Mark = 1 }},
		{"an outer Mark behind the last", base, false, func(s *api.State) { s.Calls[1].Mark = 14 }},
		{"a slot too few", base, false, func(s *api.State) { last(s).Slots = last(s).Slots[:1] }},
		{"a slot too many", base, false, func(s *api.State) { last(s).Slots = append(last(s).Slots, none) }},
		{"an outer slot too few", base, false, func(s *api.State) { s.Calls[0].Slots = nil }},
		{"an outer slot too many", base, false, func(s *api.State) { s.Calls[1].Slots = append(s.Calls[1].Slots, none) }},

		{"behind no call", base, false, func(s *api.State) { s.Calls[1].At = 8; s.Calls[1].Stack = vals(num(9), ref(0)) }},
		{"behind the instruction behind the call", base, false, func(s *api.State) { s.Calls[1].At = 10; s.Calls[1].Stack = nil }},
		{"behind a call of another unit", base, false, func(s *api.State) {
			s.Calls = s.Calls[:2]
			s.Calls[0].At = 7
			s.Calls[0].Stack = nil
			s.Calls[1] = all[1].Calls[1]
		}},
		{"an outer stack too low", base, false, func(s *api.State) { s.Calls[1].Stack = nil }},
		{"an outer stack with the argument", base, false, func(s *api.State) { s.Calls[1].Stack = append(s.Calls[1].Stack, ref(0)) }},
		{"an outer stack with another value", base, true, func(s *api.State) { s.Calls[1].Stack = vals(txt("no number")) }},
		{"an outermost stack too low", base, false, func(s *api.State) { s.Calls[0].Stack = nil }},
		{"an outermost stack too high", base, false, func(s *api.State) { s.Calls[0].Stack = vals(none, none) }},
		{"an outermost stack of none", base, true, func(s *api.State) { s.Calls[0].Stack = vals(none) }},

		{"the innermost's stack too high", base, false, func(s *api.State) { last(s).Stack = vals(none) }},
		{"Running where no mark is", base, false, func(s *api.State) { last(s).At = 2 }},
		{"Running where no mark is, and Mark as At", base, false, func(s *api.State) { last(s).At = 2; last(s).Mark = 2 }},
		{"Running, and no Mark", base, false, func(s *api.State) { last(s).Mark = -1 }},
		{"Running, and Mark elsewhere", base, false, func(s *api.State) { last(s).Mark = 1 }},
		{"Running at a mark that nobody comes to", base, false, func(s *api.State) { last(s).At = 1; last(s).Mark = 1 }},
		{"Faulty where no mark is", faulty, true, func(s *api.State) { last(s).At = 2 }},
		{"Faulty at the first", faulty, true, func(s *api.State) { last(s).At = 0 }},
		{"Faulty at a return", faulty, true, func(s *api.State) { last(s).At = 8; last(s).Stack = vals(txt("")) }},
		{"Faulty at a return, the stack too low", faulty, false, func(s *api.State) { last(s).At = 8 }},
		{"Faulty at a height", faulty, true, func(s *api.State) { last(s).At = 4; last(s).Stack = vals(num(1), num(2)) }},
		{"Faulty at a height, the stack too low", faulty, false, func(s *api.State) { last(s).At = 4; last(s).Stack = vals(num(1)) }},
		{"Faulty at a height, the stack too high", faulty, false, func(s *api.State) { last(s).At = 4; last(s).Stack = vals(num(1), num(2), num(3)) }},
		{"Faulty where nobody comes to", faulty, false, func(s *api.State) { last(s).At = 1 }},

		{"an object with a tag that is no name", base, false, func(s *api.State) { s.Heap[0].Tag = "1" }},
		{"an object with a tag that is no shape's", base, true, func(s *api.State) { s.Heap[0].Tag = "Z" }},
		{"a cell that is none", base, false, func(s *api.State) { s.Heap[0].Cells[1] = none }},
		{"a cell that refers to nothing", base, false, func(s *api.State) { s.Heap[0].Cells[1] = ref(1) }},
		{"a cell that refers to its object", base, true, func(s *api.State) { s.Heap[0].Cells[1] = ref(0) }},
		{"a heap with no more room", base, true, func(s *api.State) { s.Heap = []api.Obj{obj("P"), obj("Q"), obj("")} }},
		{"a heap above its limit", base, false, func(s *api.State) { s.Heap = append(s.Heap, obj("")) }},
		{"a cell above the limit", base, false, func(s *api.State) { s.Heap[0].Cells = append(s.Heap[0].Cells, num(1)) }},
		{"Done with a heap above its limit", ended, false, func(s *api.State) { s.Heap = append(s.Heap, obj("")) }},
		{"a slot that refers to nothing", base, false, func(s *api.State) { last(s).Slots[0] = ref(1) }},
		{"a slot that refers to nothing below", base, false, func(s *api.State) { last(s).Slots[0] = ref(-1) }},
		{"a slot that is no truth", base, false, func(s *api.State) { last(s).Slots[0] = boolean(2) }},
		{"a slot that is no text", base, false, func(s *api.State) { last(s).Slots[0] = txt("\x00") }},
		{"a slot of a text that is too long", base, false, func(s *api.State) { last(s).Slots[0] = txt(strings.Repeat("a", 256)) }},
		{"a slot of a text of 255 bytes", base, true, func(s *api.State) { last(s).Slots[0] = txt(strings.Repeat("a", 255)) }},
		{"a slot of no kind", base, false, func(s *api.State) { last(s).Slots[0] = api.Val{Kind: 5} }},
		{"a slot that has what its kind does not", base, false, func(s *api.State) { last(s).Slots[0] = api.Val{Kind: api.VInt, S: "a"} }},
		{"a none that has something", base, false, func(s *api.State) { last(s).Slots[0] = api.Val{N: 1} }},
		{"an outer slot that refers to nothing", base, false, func(s *api.State) { s.Calls[1].Slots[2] = ref(9) }},
		{"an outer stack that refers to nothing", base, false, func(s *api.State) { s.Calls[1].Stack[0] = ref(1) }},
		{"an outermost stack that refers to nothing", base, false, func(s *api.State) { s.Calls[0].Stack[0] = ref(1) }},
		{"a stack that refers to nothing", faulty, false, func(s *api.State) { last(s).At = 8; last(s).Stack = vals(ref(1)) }},

		{"Out of the limit's bytes", base, true, func(s *api.State) { s.Out = strings.Repeat("\x00", 12) }},
		{"Out of a byte more", base, false, func(s *api.State) { s.Out = strings.Repeat("x", 13) }},
		{"Done with Out of a byte more", ended, false, func(s *api.State) { s.Out = strings.Repeat("x", 13) }},
		{"Read 0", base, true, func(s *api.State) { s.Read = 0 }},
		{"Read -1", base, false, func(s *api.State) { s.Read = -1 }},
		{"Read all", base, true, func(s *api.State) { s.Read = 2 }},
		{"Read one more", base, false, func(s *api.State) { s.Read = 3 }},
		{"Done with one more read", ended, false, func(s *api.State) { s.Read = 3 }},
		{"zero", api.State{}, false, func(s *api.State) {}},
	} {
		s := changed(x.from, x.do)
		expect(t, x.what+", by the chapter's words", mayBeByWords(c, input, lim, s), x.is)
		if !x.is {
			expectNoLoad(t, x.what, c, input, lim, s)
			continue
		}
		m := mustLoad(t, c, input, lim, s)
		expectFrom(t, x.what, c, input, lim, m, s)
	}
}

// P9.4: as many calls as Frames, and one more; New's error comes ahead of all that is wrong of a state.
func TestLoadFrames(t *testing.T) {
	c := codeOf("mark 1; call 0; return")
	s := end(t, c, nil, most)
	expect(t, "how many calls", len(s.Calls), 64)
	for frames := 60; frames <= 64; frames++ {
		lim := most
		lim.Frames = frames
		l := changed(s, func(s *api.State) { s.Calls = s.Calls[64-frames:] })
		mustLoad(t, c, nil, lim, l)
		if frames < 64 {
			expectNoLoad(t, fmt.Sprint(frames+1, " calls"), c, nil, lim, changed(s, func(s *api.State) { s.Calls = s.Calls[63-frames:] }))
		}
	}
	many := changed(s, func(s *api.State) { s.Calls = append(s.Calls[:1:1], s.Calls...) })
	expectNoLoad(t, "65 calls", c, nil, most, many)
	if _, err := Load(c, make([]int, 257), most, many); err != api.ErrArg {
		t.Errorf("a wrong input, and a wrong state: error %d", err)
	}
	if _, err := Load(codeOf("pop; return"), nil, most, many); err != api.ErrArg {
		t.Errorf("a wrong code, and a wrong state: error %d", err)
	}
	if _, err := Load(c, nil, api.Limits{}, many); err != api.ErrArg {
		t.Errorf("wrong limits, and a wrong state: error %d", err)
	}
}

// P9.4: a call that nobody comes to is no caller; that it stands behind one that is called elsewhere is not enough.
func TestLoadNotReached(t *testing.T) {
	c := nested() // quiet has a call of itself behind its return
	s := api.State{Status: api.Faulty, Fault: api.FaultDiv, Calls: []api.Called{
		{Unit: 0, At: 7, Mark: 5, Slots: vals(none)}, {Unit: 2, At: 0, Mark: -1},
	}}
	mustLoad(t, c, nil, most, s)
	mustLoad(t, c, nil, most, changed(s, func(s *api.State) { s.Calls[1].Mark = 3 }))
	more := changed(s, func(s *api.State) {
		s.Calls = append(s.Calls, s.Calls[1])
		s.Calls[1].At = 5
	})
	expectNoLoad(t, "behind a call that nobody comes to", c, nil, most, more)
	for at := range 6 {
		x := changed(s, func(s *api.State) { s.Calls[1].At = at })
		if at == 1 {
			x.Calls[1].Stack = vals(num(1))
		}
		if at < 3 {
			mustLoad(t, c, nil, most, x)
		} else {
			expectNoLoad(t, fmt.Sprint("at ", at), c, nil, most, x)
		}
	}
}

// P9.4: a state that is handed in is not kept.
func TestLoadAnew(t *testing.T) {
	c := nested()
	all := expectRun(t, "the run", c, []int{7, 8}, most)
	for n, s := range all {
		given := cloned(s)
		m := mustLoad(t, c, []int{7, 8}, most, given)
		for i := range given.Calls {
			overwrite(given.Calls[i].Slots)
			overwrite(given.Calls[i].Stack)
		}
		for i := range given.Heap {
			overwrite(given.Heap[i].Cells)
		}
		overwrite(given.Calls)
		overwrite(given.Heap)
		expectFrom(t, fmt.Sprint("loaded at ", n), c, []int{7, 8}, most, m, s)
	}
}

// P9.4: Heap is a copy: what is done to it is not done to the machine, nor the other way; it has the run's limit.
func TestHeap(t *testing.T) {
	c := mustCompile(t, "fn main() { let l = [1, 2]; l[0] = 5; l = [l[0]]; print(l); }")
	lim := most
	lim.Heap = 10
	m := mustNew(t, c, nil, lim)
	m.Run(1)
	h := m.Heap()
	was := shown(m.State())
	if v, err := h.Get(ref(0), 0); v != num(1) || err != api.OK {
		t.Errorf("the cell: %v, %d", v, err)
	}
	expect(t, "used", h.Used(), 3)
	expect(t, "Set", h.Set(ref(0), 0, txt("other")), api.OK)
	_, err := h.Alloc("", make([]api.Val, 0))
	expect(t, "Alloc", err, api.OK)
	_, err = h.Alloc("", vals(num(1), num(2), num(3), num(4), num(5)))
	expect(t, "Alloc of what fills it", err, api.OK)
	_, err = h.Alloc("", nil)
	expect(t, "Alloc above the limit", err, api.ErrFull)
	expect(t, "the state behind it", shown(m.State()), was)
	old := m.Heap()
	expect(t, "the heap", shown(old.All()), shown([]api.Obj{obj("", num(1), num(2))}))
	m.Step()
	expect(t, "the machine's heap, gone on", shown(m.Heap().All()), shown([]api.Obj{obj("", num(5), num(2))}))
	expect(t, "the copy that was told ahead", shown(old.All()), shown([]api.Obj{obj("", num(1), num(2))}))
	m.Run(9)
	expect(t, "the output", m.Look().Out, "[5]\n")
	expect(t, "the heap of a run that is done", shown(m.Heap().All()), shown([]api.Obj{obj("", num(5), num(2)), obj("", num(5))}))

	m = mustLoad(t, codeOf("return"), nil, lim, api.State{Status: api.Done, Heap: []api.Obj{obj("P", ref(1)), obj("")}})
	h = m.Heap()
	expect(t, "a loaded heap", shown(h.All()), shown([]api.Obj{obj("P", ref(1)), obj("")}))
	_, err = h.Alloc("", slices.Repeat(vals(num(1)), 7))
	expect(t, "Alloc above a loaded heap's limit", err, api.ErrFull)
	_, err = h.Alloc("", slices.Repeat(vals(num(1)), 6))
	expect(t, "Alloc of all that a loaded heap has room for", err, api.OK)
}

// P9.4: a copy goes on by itself.
func TestCopy(t *testing.T) {
	c := nested()
	input := []int{7, 8}
	all := expectRun(t, "the run", c, input, most)
	m := mustNew(t, c, input, most)
	var copies []*Machine
	for range all {
		copies = append(copies, m.Copy())
		m.Step()
	}
	for n, m := range copies {
		expectState(t, fmt.Sprint("the copy of position ", n), c, m, all[n])
	}
	for n, m := range copies {
		other := m.Copy()
		expectFrom(t, fmt.Sprint("the copy of position ", n), c, input, most, m, all[n])
		expectState(t, fmt.Sprint("the copy's copy of position ", n), c, other, all[n])
	}
	// Two that go on from the same position put the same bytes behind their output: where these are kept tells whether they share them.
	if &m.out[0] == &m.Copy().out[0] {
		t.Error("a copy keeps its output where the machine does")
	}
	// Of two that go on in turn neither is told of the other.
	first := mustNew(t, c, input, most)
	second := first.Copy()
	for n := range all {
		expectState(t, "the first", c, first, all[n])
		expectState(t, "the second", c, second, all[max(0, n-1)])
		first.Step()
		if n > 0 {
			second.Step()
		}
	}
}

// P9.4: no machine, and one that nothing made.
func TestNoMachine(t *testing.T) {
	for what, m := range map[string]*Machine{"none": nil, "one that nothing made": {}} {
		for range 2 {
			expect(t, what+": Step", m.Step(), false)
			expect(t, what+": Run", m.Run(5), 0)
			expect(t, what+": Look", shown(m.Look()), shown(api.Look{}))
			expect(t, what+": State", shown(m.State()), shown(api.State{}))
			expect(t, what+": Heap", m.Heap(), (*heap.Heap)(nil))
			expect(t, what+": Copy", m.Copy(), (*Machine)(nil))
		}
	}
}
