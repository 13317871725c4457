package vm

import (
	"fmt"
	"math"
	"strings"
	"testing"

	"hindcast/api"
)

// The chapter's examples.
func TestExamples(t *testing.T) {
	c := mustCompile(t, "fn main() { let x = 2; print(x + 1); }")
	m := mustNew(t, c, nil, most)
	expect(t, "position 0", shown(m.Look()), shown(api.Look{Frames: []api.Frame{{Func: "main", Line: 1}}}))
	expect(t, "Step", m.Step(), true)
	expect(t, "position 1", shown(m.Look()), shown(api.Look{Pos: 1, Frames: []api.Frame{{Func: "main", Line: 1, Vars: []api.Bind{{Name: "x", Value: num(2)}}}}}))
	expect(t, "Step", m.Step(), true)
	expect(t, "position 2", shown(m.Look()), shown(api.Look{Pos: 2, Status: api.Done, Out: "3\n"}))
	expect(t, "Step", m.Step(), false)

	m = mustNew(t, mustCompile(t, "fn main() { print(1 / 0); }"), nil, most)
	expect(t, "Run", m.Run(9), 1)
	expect(t, "print(1 / 0)", shown(m.Look()), shown(api.Look{Pos: 1, Status: api.Faulty, Fault: api.FaultDiv, Frames: []api.Frame{{Func: "main", Line: 1}}}))

	lim := most
	lim.Steps = 5
	m = mustNew(t, mustCompile(t, "fn main() { while true { } }"), nil, lim)
	expect(t, "Run", m.Run(9), 5)
	expect(t, "while true { }", shown(m.Look()), shown(api.Look{Pos: 5, Status: api.Faulty, Fault: api.FaultSteps, Frames: []api.Frame{{Func: "main", Line: 1}}}))
}

// P9.2: Step is false, and nothing is done, of a run that has ended, for whatever; Run tells how many there were.
func TestStepAndRun(t *testing.T) {
	c := codeOf("mark 1; mark 2; mark 3; int 4; print 1; return")
	for n, want := range map[int]int{math.MinInt: 0, -1: 0, 0: 0, 1: 1, 2: 2, 3: 3, 4: 3, 100: 3, math.MaxInt: 3} {
		m, other := mustNew(t, c, nil, most), mustNew(t, c, nil, most)
		expect(t, fmt.Sprintf("Run(%d)", n), m.Run(n), want)
		for range want {
			expect(t, "Step", other.Step(), true)
		}
		expect(t, fmt.Sprintf("Run(%d), and as many Steps", n), shown(m.State()), shown(other.State()))
		expect(t, "the position", m.Look().Pos, want)
		expect(t, "Run to the end", m.Run(100), 3-want)
		expect(t, "Run of an ended run", m.Run(100), 0)
		expect(t, "Step of an ended run", m.Step(), false)
		expect(t, "the end", shown(m.State()), shown(api.State{Pos: 3, Status: api.Done, Out: "4\n"}))
	}
	for what, c := range map[string]api.Code{"a fault": codeOf("mark 1; bool 1; neg; pop; return"), "no room": codeOf("mark 1; int 1; array 1; pop; jump 0")} {
		m := mustNew(t, c, nil, api.Limits{Steps: 9, Heap: 4, Frames: 1})
		m.Run(99)
		was := m.State()
		expect(t, what, was.Status, api.Faulty)
		expect(t, what+": Step", m.Step(), false)
		expect(t, what+": Run", m.Run(1), 0)
		expect(t, what+": the state", shown(m.State()), shown(was))
	}
}

// P9.2: each position is at a mark; each mark that is reached is one, also where one stands behind the other, and in a call.
func TestPositions(t *testing.T) {
	c := codeOf("mark 10; mark 11; call 1; mark 12; bool 1; unless 0; jump 9; mark 13; jump 0; mark 14; return",
		unit("f", 0, false, "int 1; pop; mark 20; call 2; mark 21; return"), unit("g", 0, false, "return"))
	m := mustNew(t, c, nil, most)
	var lines []string
	for {
		l := m.Look()
		line := fmt.Sprint(l.Pos, ":")
		for _, f := range l.Frames {
			line += fmt.Sprint(" ", f.Func, f.Line)
		}
		lines = append(lines, line)
		if !m.Step() {
			break
		}
	}
	want := "0: main10, 1: main11, 2: main11 f20, 3: main11 f21, 4: main12, 5: main14, 6:"
	expect(t, "the positions", strings.Join(lines, ", "), want)
	expectRun(t, "the run", c, nil, most)
}

// P9.2: the position with the number Steps: Running it may not be, but it may have ended.
func TestSteps(t *testing.T) {
	c := codeOf("mark 1; int 1; store 0; mark 2; mark 3; return")
	for steps := 1; steps <= 5; steps++ {
		lim := api.Limits{Steps: steps, Frames: 1}
		m := mustNew(t, c, nil, lim)
		expect(t, "Run", m.Run(99), min(steps, 3))
		s := m.State()
		expect(t, "the position", s.Pos, min(steps, 3))
		if steps >= 3 {
			expect(t, fmt.Sprint(steps, " positions: done"), s.Status, api.Done)
			continue
		}
		at := []int{0, 3, 4}[steps]
		slots := append(vals(num(1)), make([]api.Val, 31)...)
		want := api.State{Pos: steps, Status: api.Faulty, Fault: api.FaultSteps, Calls: []api.Called{{At: at, Mark: at, Slots: slots}}}
		expectState(t, fmt.Sprint(steps, " positions"), c, m, want)
	}
	for fault, main := range map[api.Fault]string{api.FaultKind: "mark 1; bool 1; neg; pop; mark 2; return", api.FaultFrames: "mark 1; call 0; mark 2; return", api.FaultInput: "mark 1; input; pop; mark 2; return"} {
		s := end(t, codeOf(main), nil, api.Limits{Steps: 1, Frames: 1})
		expect(t, main+": the fault at the position Steps", s.Fault, fault)
		expect(t, main+": the position", s.Pos, 1)
	}
}

// quiet tells the text of main with a run of so many instructions that are no marks; what stands at its end is handed in.
func quiet(n int, begin, last string) api.Code {
	// A call of wait is one instruction, and within it there are 4000; rest goes through what is left.
	s := begin + times(n/4001, "call 1")
	c := codeOf(s+times(n%4001, "call 2")+last, unit("wait", 0, false, times(1999, "int 1; pop")+"jump 3999; return"), unit("one", 0, false, "mark 1; return"))
	for at, i := range c.Units[0].Ins {
		if i == (api.Ins{Op: api.OpCall, A: 2}) {
			c.Units[0].Ins[at] = api.Ins{Op: api.OpJump, A: at + 1}
		}
	}
	return c
}

// P9.2: just MaxQuiet instructions without a mark, and one more.
func TestQuiet(t *testing.T) {
	for _, x := range []struct {
		n           int
		begin, last string
		want        string
	}{
		{65536, "mark 1;", "mark 2; return", "1 mark 2, 2 done"},
		{65537, "mark 1;", "mark 2; return", "1 steps"},
		{65535, "mark 1;", "return", "1 done"},
		{65536, "mark 1;", "return", "1 steps"},
		{65536, "mark 1; mark 2;", "mark 3; return", "1 mark 2, 2 mark 3, 3 done"},
		{65537, "mark 1; mark 2;", "mark 3; return", "1 mark 2, 2 steps"},
		{65536, "", "mark 2; return", "0 mark 2, 1 done"},
		{65537, "", "mark 2; return", "0 steps"},
		{65535, "", "return", "0 done"},
		{65536, "", "return", "0 steps"},
		{65535, "mark 1;", "jump 0", "1 mark 1, 2 mark 1, 3 mark 1, 4 steps"},
		{65536, "mark 1;", "jump 0", "1 steps"},
	} {
		c := rightCode(t, quiet(x.n, x.begin, x.last))
		lim := api.Limits{Steps: 4, Frames: 2}
		m := mustNew(t, c, nil, lim)
		var got []string
		for more := x.begin == "" || m.Step(); more; more = m.Step() {
			s := m.State()
			switch {
			case s.Status == api.Done:
				got = append(got, fmt.Sprint(s.Pos, " done"))
			case s.Fault == api.FaultSteps:
				got = append(got, fmt.Sprint(s.Pos, " steps"))
			default:
				got = append(got, fmt.Sprint(s.Pos, " mark ", c.Units[0].Ins[s.Calls[0].At].A))
			}
		}
		expect(t, fmt.Sprint(x.n, x.begin, x.last), strings.Join(got, ", "), x.want)
	}
	// The unit stands at the instruction that is not done.
	c := rightCode(t, quiet(65536, "mark 1;", "return"))
	s := end(t, c, nil, most)
	expect(t, "where", s.Calls[0].At, len(c.Units[0].Ins)-1)
	expect(t, "the mark", s.Calls[0].Mark, 0)
	c = rightCode(t, quiet(65536-2, "mark 1;", "int 5; int 6; int 7; pop; pop; pop; return"))
	s = end(t, c, nil, most)
	expect(t, "where", s.Calls[0].At, len(c.Units[0].Ins)-5)
	expect(t, "the stack", shown(s.Calls[0].Stack), shown(vals(num(5), num(6))))
	expect(t, "a loop without a mark", end(t, codeOf("jump 0"), nil, most).Fault, api.FaultSteps)
	expect(t, "a mark in a call", end(t, codeOf("call 1; jump 0", unit("f", 0, false, "mark 1; return")), nil, most).Pos, most.Steps)
}

// P9.2: where an instruction ends the run by itself, it does so also as the one behind MaxQuiet others.
func TestQuietAndFault(t *testing.T) {
	for last, fault := range map[string]api.Fault{
		"input": api.FaultInput, "load 1": api.FaultSteps, "int 1": api.FaultSteps,
	} {
		c := rightCode(t, quiet(65536, "mark 1;", last+"; pop; mark 2; return"))
		s := end(t, c, nil, most)
		expect(t, last, s.Fault, fault)
		expect(t, last+": where", s.Calls[0].At, len(c.Units[0].Ins)-4)
		expect(t, last+": the position", s.Pos, 1)
		expect(t, last+": the stack", len(s.Calls[0].Stack), 0)
	}
	for last, fault := range map[string]api.Fault{
		"neg; pop": api.FaultKind, "not; pop": api.FaultKind, "array 1; pop": api.FaultHeap, "print 1; jump 0": api.FaultOut,
		"show; pop": api.FaultSteps, "store 0; jump 0": api.FaultSteps,
	} {
		c := rightCode(t, quiet(65535, "mark 1;", "str 4; "+last+"; mark 2; return"))
		s := end(t, c, nil, api.Limits{Steps: 9, Frames: 2})
		expect(t, last, s.Fault, fault)
		expect(t, last+": where", s.Calls[0].At, len(c.Units[0].Ins)-4)
		expect(t, last+": the stack", shown(s.Calls[0].Stack), shown(vals(txt("ab"))))
		expect(t, last+": the slots", shown(s.Calls[0].Slots), shown(make([]api.Val, 32)))
		expect(t, last+": the heap", len(s.Heap), 0)
	}
}

// P9.2: as many calls as Frames, and one more.
func TestFrames(t *testing.T) {
	c := codeOf("mark 1; int 5; int 0; call 1; pop; pop; mark 2; return", unit("down", 1, true, "mark 9; load 0; int 1; add; call 1; return 1"))
	for frames := 1; frames <= 64; frames++ {
		lim := most
		lim.Frames = frames
		s := end(t, c, nil, lim)
		expect(t, "the fault", s.Fault, api.FaultFrames)
		expect(t, "the calls", len(s.Calls), frames)
		expect(t, "the position", s.Pos, frames)
		x := innermost(s)
		if frames == 1 {
			expect(t, "where", x.At, 3)
			expect(t, "the stack", shown(x.Stack), shown(vals(num(5), num(0))))
			continue
		}
		expect(t, "where", x.At, 4)
		expect(t, "the stack", shown(x.Stack), shown(vals(num(frames-1))))
		expect(t, "the outermost one stands behind its call", s.Calls[0].At, 4)
		expect(t, "the outermost one's stack", shown(s.Calls[0].Stack), shown(vals(num(5))))
	}
	up := codeOf("mark 1; int 63; call 1; print 1; mark 2; return", unit("up", 1, true, "load 0; int 1; le; unless 6; int 1; return 1; load 0; load 0; int 1; sub; call 1; add; return 1"))
	expect(t, "63 calls within main", end(t, up, nil, most).Out, fmt.Sprintln(63*64/2))
	lim := most
	lim.Frames = 63
	expect(t, "62 calls within main", end(t, up, nil, lim).Fault, api.FaultFrames)
}

// P9.2: return of an inner call, with and without a result, of Main within Main too; and of the outermost.
func TestReturn(t *testing.T) {
	c := codeOf("mark 1; int 1; int 2; int 3; call 1; add; store 0; call 2; pop; mark 2; return",
		unit("minus", 2, true, "load 1; load 0; store 5; load 5; sub; return 1"), unit("nothing", 0, true, "load 7; return 1"))
	m := mustNew(t, c, nil, most)
	m.Step()
	expect(t, "the result", m.State().Calls[0].Slots[0], num(2))
	expect(t, "the slots of a call are its own", m.State().Calls[0].Slots[5], none)
	m.Step()
	expect(t, "the end", shown(m.State()), shown(api.State{Pos: 2, Status: api.Done}))

	again := codeOf("mark 1; input; int 0; ne; unless 7; call 0; mark 2; mark 3; return")
	m = mustNew(t, again, []int{1, 1, 0}, most)
	var got []string
	for {
		l := m.Look()
		line := fmt.Sprint(l.Status)
		for _, f := range l.Frames {
			line += fmt.Sprint(" ", f.Line)
		}
		got = append(got, line)
		if !m.Step() {
			break
		}
	}
	expect(t, "main within main", strings.Join(got, ", "), "0 1, 0 1 1, 0 1 1 1, 0 1 1 3, 0 1 2, 0 1 3, 0 2, 0 3, 1")
	expectRun(t, "main within main", again, []int{1, 1, 0}, most)
}
