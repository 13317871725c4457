package vm

import (
	"fmt"
	"slices"
	"testing"

	"hindcast/api"
)

// P9.1: limits at each end, and one past it.
func TestLimits(t *testing.T) {
	c := codeOf("mark 1; return")
	for _, x := range []struct {
		what        string
		least, most int
		set         func(lim *api.Limits, n int)
	}{
		{"Steps", 1, 4294967296, func(lim *api.Limits, n int) { lim.Steps = n }},
		{"Heap", 0, 4096, func(lim *api.Limits, n int) { lim.Heap = n }},
		{"Frames", 1, 64, func(lim *api.Limits, n int) { lim.Frames = n }},
		{"Out", 0, 4096, func(lim *api.Limits, n int) { lim.Out = n }},
	} {
		with := func(n int) api.Limits {
			lim := most
			x.set(&lim, n)
			return lim
		}
		for _, n := range []int{x.least, x.least + 1, x.most - 1, x.most} {
			m := mustNew(t, c, nil, with(n))
			expectState(t, fmt.Sprint(x.what, n), c, m, beginByWords(c, nil, with(n)))
			expect(t, x.what+": Step", m.Step(), true)
			mustLoad(t, c, nil, with(n), api.State{Status: api.Done})
		}
		for _, n := range []int{x.least - 1, x.most + 1, -1 << 63, 1<<63 - 1} {
			expectNoNew(t, fmt.Sprint(x.what, " of ", n), c, nil, with(n))
		}
	}
	least := api.Limits{Steps: 1, Frames: 1}
	greatest := api.Limits{Steps: 1 << 32, Heap: 4096, Frames: 64, Out: 4096}
	for _, lim := range []api.Limits{least, greatest} {
		mustNew(t, c, nil, lim)
	}
	expectNoNew(t, "no limits", c, nil, api.Limits{})
}

// P9.1: an input of just MaxInput numbers, and one more.
func TestInputSize(t *testing.T) {
	c := codeOf("mark 1; input; pop; jump 0")
	for _, n := range []int{0, 1, 255, 256} {
		s := end(t, c, make([]int, n), most)
		expect(t, "how many were read", s.Read, n)
		expect(t, "the fault", s.Fault, api.FaultInput)
	}
	expectNoNew(t, "257 numbers", c, make([]int, 257), most)
	expectNoNew(t, "1000 numbers", c, make([]int, 1000), most)
}

// P9.1: a code that is not right.
func TestWrongCode(t *testing.T) {
	wrong := map[string]api.Code{
		"none":                  {},
		"no instructions":       codeOf(""),
		"an end without return": codeOf("mark 1"),
		"pop of nothing":        codeOf("pop; return"),
		"two heights":           codeOf("bool 1; unless 3; int 1; return"),
		"a mark at a height":    codeOf("int 1; mark 1; pop; return"),
		"a jump outside":        codeOf("jump 1"),
		"no such slot":          codeOf("load 32; pop; return"),
		"no such text":          codeOf("str 7; pop; return"),
		"no such unit":          codeOf("call 1; return"),
		"no such shape":         codeOf("int 1; new 2; pop; return"),
		"no such op":            {Units: []api.Unit{{Name: "main", Ins: []api.Ins{{Op: 35}}}}},
		"two units of one name": codeOf("return", unit("main", 0, false, "return")),
		"a Main with a result":  {Units: []api.Unit{unit("main", 0, true, "int 1; return 1")}},
		"no such Main":          {Units: []api.Unit{unit("main", 0, false, "return")}, Main: 1},
		"a Main below 0":        {Units: []api.Unit{unit("main", 0, false, "return")}, Main: -1},
		"a text that is none":   {Strs: []string{"\x00"}, Units: []api.Unit{unit("main", 0, false, "return")}},
		"a stack that is short": {Units: []api.Unit{{Name: "main", Stack: 1, Ins: asm("int 1; int 2; pop; pop; return")}}},
	}
	for what, c := range wrong {
		expectNoNew(t, what, c, nil, most)
		expectNoNew(t, what+", and no limits", c, make([]int, 257), api.Limits{})
	}
}

// P9.1: a run begins with Main, wherever that stands, an empty heap and output, at the first mark that is reached.
func TestBeginning(t *testing.T) {
	c := api.Code{Main: 1, Units: []api.Unit{
		unit("other", 0, false, "mark 7; return"),
		{Name: "start", Slots: 3, Stack: 2, Ins: asm("int 5; store 2; jump 3; mark 4; return")},
	}}
	m := mustNew(t, c, []int{1, 2}, most)
	want := api.State{Calls: []api.Called{{Unit: 1, At: 3, Mark: 3, Slots: vals(none, none, num(5))}}}
	expectState(t, "the beginning", c, m, want)
	expect(t, "Run", m.Run(9), 1)
	expectState(t, "the end", c, m, api.State{Pos: 1, Status: api.Done})
}

// P9.1, P9.2: runs without a mark, and such as end ahead of their first mark, have ended at the position 0.
func TestNoMark(t *testing.T) {
	for _, x := range []struct {
		what, main string
		want       api.State
	}{
		{"nothing", "return", api.State{Status: api.Done}},
		{"a print", "int 5; print 1; return", api.State{Status: api.Done, Out: "5\n"}},
		{"an object, an input", "input; array 1; store 0; return", api.State{Status: api.Done, Heap: []api.Obj{obj("", num(7))}, Read: 1}},
		{"a call", "int 2; call 1; print 1; return", api.State{Status: api.Done, Out: "4\n"}},
		{"a mark that nobody comes to", "jump 2; mark 1; return", api.State{Status: api.Done}},
	} {
		c := codeOf(x.main, unit("twice", 1, true, "load 0; load 0; add; return 1"))
		m := mustNew(t, c, []int{7}, most)
		expectState(t, x.what, c, m, x.want)
		expect(t, x.what+": Step", m.Step(), false)
		expect(t, x.what+": Run", m.Run(5), 0)
		expectState(t, x.what+", gone on", c, m, x.want)
	}
	c := codeOf("int 3; int 1; int 0; div; store 0; pop; mark 1; return")
	want := api.State{Status: api.Faulty, Fault: api.FaultDiv, Calls: []api.Called{{At: 3, Mark: -1, Slots: make([]api.Val, 32), Stack: vals(num(3), num(1), num(0))}}}
	m := mustNew(t, c, nil, most)
	expectState(t, "a fault ahead of the first mark", c, m, want)
	expect(t, "Step", m.Step(), false)
	for _, x := range []struct {
		main  string
		fault api.Fault
	}{
		{"str 4; neg; pop; jump 0", api.FaultKind},
		{"int -1; int 1; fill; pop; jump 0", api.FaultSize},
		{"input; pop; jump 0", api.FaultInput},
		{"str 4; print 1; jump 0", api.FaultOut},
		{"str 4; call 1; pop; jump 0", api.FaultFrames},
		{"str 4; array 1; pop; jump 0", api.FaultHeap},
		{"str 6; str 6; add; pop; jump 0", api.FaultText},
		{"jump 0", api.FaultSteps},
	} {
		s := end(t, codeOf(x.main, unit("same", 1, true, "load 0; return 1")), nil, api.Limits{Steps: 1, Frames: 1})
		expect(t, x.main+": the fault", s.Fault, x.fault)
		expect(t, x.main+": the position", s.Pos, 0)
	}
}

// What is handed in is not changed, and not kept: what is done to it later is nothing to the machine.
func TestHandedIn(t *testing.T) {
	source := "record P { x: int, s: str } fn f(a: int): P { let q = new P(a, \"t\"); return q; } fn main() { let i = 0; while i < 5 { let p = f(input()); print(p, p.x, \"ab\"); i = i + 1; } }"
	input := append(make([]int, 0, 20), 1, 2, 3, 4, 5)
	behind := input[:20]
	c := mustCompile(t, source)
	want := expectRun(t, "the run", c, input, most)
	m := mustNew(t, c, input, most)
	loaded := mustLoad(t, c, input, most, want[3])
	scribble(&c)
	for n := range behind {
		behind[n] = -1
	}
	for n, s := range want {
		expectState(t, fmt.Sprint("position ", n), mustCompile(t, source), m, s)
		m.Step()
		if n >= 3 {
			expectState(t, fmt.Sprint("loaded, position ", n), mustCompile(t, source), loaded, s)
			loaded.Step()
		}
	}
}

// Nothing that is handed in is changed, nor what stands behind a list's end.
func TestLeftAsItWas(t *testing.T) {
	source := "fn main() { let l = [1, 2]; l[0] = input(); print(l, \"x\"); let s = \"a\"; }"
	c := mustCompile(t, source)
	was := shown(c)
	input := append(make([]int, 0, 9), 7)
	m := mustNew(t, c, input, most)
	m.Run(2)
	s := m.State()
	s.Calls[0].Slots = slices.Grow(s.Calls[0].Slots, 9)
	s.Calls[0].Stack = slices.Grow(s.Calls[0].Stack, 9)
	s.Heap = slices.Grow(s.Heap, 9)
	s.Heap[0].Cells = slices.Grow(s.Heap[0].Cells, 9)
	stood := shown(s)
	other := mustLoad(t, c, input, most, s)
	other.Run(99)
	expect(t, "the code", shown(c), was)
	expect(t, "the input", shown(input[:9]), shown([]int{7, 0, 0, 0, 0, 0, 0, 0, 0}))
	expect(t, "the state", shown(s), stood)
	expect(t, "behind the slots", shown(s.Calls[0].Slots[len(s.Calls[0].Slots):][:9]), shown(make([]api.Val, 9)))
	expect(t, "behind the stack", shown(s.Calls[0].Stack[:9]), shown(make([]api.Val, 9)))
	expect(t, "behind the heap", shown(s.Heap[1:10]), shown(make([]api.Obj, 9)))
	expect(t, "behind the cells", shown(s.Heap[0].Cells[2:11]), shown(make([]api.Val, 9)))
}

// scribble writes over all lists of a code.
func scribble(c *api.Code) {
	for i := range c.Strs {
		c.Strs[i] = "no"
	}
	for i := range c.Shapes {
		c.Shapes[i].Name = "no"
		for k := range c.Shapes[i].Fields {
			c.Shapes[i].Fields[k] = "no"
		}
	}
	for i := range c.Units {
		u := &c.Units[i]
		for k := range u.Ins {
			u.Ins[k] = api.Ins{}
		}
		for k := range u.Vars {
			u.Vars[k] = api.Var{}
		}
		*u = api.Unit{}
	}
}
