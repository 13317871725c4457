package vm

import (
	"slices"

	"hindcast/api"
)

const noMark = -1 // of a call that has not come to a mark yet

// call is a unit that is being run.
type call struct{ api.Called }

func newCall(c api.Called) *call { return &call{calledAnew(c)} }

// top tells the last values on the stack, which stay there.
func (c *call) top(n int) []api.Val { return c.Stack[len(c.Stack)-n:] }

// next takes values from the stack, puts others, and goes on to the next instruction.
func (c *call) next(takes int, puts ...api.Val) {
	c.Stack = append(c.Stack[:len(c.Stack)-takes], puts...)
	c.At++
}

func (m *Machine) innermost() *call { return m.calls[len(m.calls)-1] }

// enter begins a call.
func (m *Machine) enter(unit int, arguments []api.Val) {
	slots := make([]api.Val, m.code.Units[unit].Slots)
	copy(slots, arguments)
	m.calls = append(m.calls, &call{api.Called{Unit: unit, Mark: noMark, Slots: slots}})
}

// leave ends the innermost call.
func (m *Machine) leave(results []api.Val) {
	last := len(m.calls) - 1
	m.calls = slices.Delete(m.calls, last, last+1)
	if last == 0 {
		m.status = api.Done
		return
	}
	c := m.innermost()
	c.Stack = append(c.Stack, results...)
}

// goOn goes on to the next position, from where no mark stands that is not gone over yet.
func (m *Machine) goOn() {
	fault := m.toMark()
	if fault == api.NoFault && m.status == api.Running && m.pos == m.limits.Steps {
		fault = api.FaultSteps
	}
	if fault != api.NoFault {
		m.status, m.fault = api.Faulty, fault
	}
}

// toMark does instructions until the run stands at a mark, or is done; or it tells the fault for which one of them is not done.
func (m *Machine) toMark() (fault api.Fault) {
	defer func() {
		switch x := recover().(type) {
		case nil:
		case api.Fault:
			fault = x
		default:
			panic(x) // a mistake in this package, which must not look like an answer
		}
	}()
	for quiet := 0; m.status == api.Running; quiet++ {
		c := m.innermost()
		if m.code.Units[c.Unit].Ins[c.At].Op == api.OpMark {
			c.Mark = c.At
			break
		}
		if quiet == api.MaxQuiet {
			m.Copy().do() // an instruction that ends the run by itself would not be done: it has a fault of its own
			panic(api.FaultSteps)
		}
		m.do()
	}
	return api.NoFault
}

// do does the instruction at which the innermost call stands. A fault is a panic, ahead of which nothing is changed.
func (m *Machine) do() {
	c := m.innermost()
	i := m.code.Units[c.Unit].Ins[c.At]
	switch i.Op {
	case api.OpMark:
		c.next(0)
	case api.OpInt:
		c.next(0, number(i.A))
	case api.OpBool:
		c.next(0, truth(i.A == 1))
	case api.OpStr:
		c.next(0, text(m.code.Strs[i.A]))
	case api.OpLoad:
		c.next(0, c.Slots[i.A])
	case api.OpStore:
		c.Slots[i.A] = c.top(1)[0]
		c.next(1)
	case api.OpPop:
		c.next(1)
	case api.OpNeg:
		c.next(1, number(-want(c.top(1)[0], api.VInt).N))
	case api.OpNot:
		c.next(1, truth(want(c.top(1)[0], api.VBool).N == 0))
	case api.OpJump:
		c.At = i.A
	case api.OpUnless:
		is := want(c.top(1)[0], api.VBool).N == 1
		c.next(1)
		if !is {
			c.At = i.A
		}
	case api.OpCall:
		demand(len(m.calls) < m.limits.Frames, api.FaultFrames)
		n := m.code.Units[i.A].Params
		m.enter(i.A, c.top(n))
		c.next(n)
	case api.OpReturn:
		m.leave(c.top(i.A))
	case api.OpInput:
		demand(m.read < len(m.input), api.FaultInput)
		c.next(0, number(m.input[m.read]))
		m.read++
	case api.OpPrint:
		m.print(c.top(i.A))
		c.next(i.A)
	case api.OpArray, api.OpNew, api.OpFill, api.OpIndex, api.OpSetIndex, api.OpField, api.OpSetField, api.OpLen, api.OpShow:
		m.doWithHeap(c, i)
	default:
		kids := c.top(2)
		c.next(2, binary(i.Op)(kids[0], kids[1]))
	}
}

// print puts a line behind the output.
func (m *Machine) print(l []api.Val) {
	var line []byte
	for n, v := range l {
		if n > 0 {
			line = append(line, ' ')
		}
		line = append(line, m.plain(v)...)
	}
	line = append(line, '\n')
	demand(len(m.out)+len(line) <= m.limits.Out, api.FaultOut)
	m.out = append(m.out, line...)
}
