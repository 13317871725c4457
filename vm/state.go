package vm

import (
	"hindcast/api"
	"hindcast/code"
	"hindcast/heap"
)

// mayBe tells whether a state may be one of a run, but for what its heap is like.
func mayBe(c api.Code, input []int, lim api.Limits, s api.State) bool {
	return isIn(s.Pos, 0, lim.Steps) &&
		mayStand(lim, s) &&
		len(s.Out) <= lim.Out &&
		isIn(s.Read, 0, len(input)) &&
		mayCall(c, s)
}

// mayStand tells whether a state's status goes with its fault, its position, and how many calls there are.
func mayStand(lim api.Limits, s api.State) bool {
	called := isIn(len(s.Calls), 1, lim.Frames)
	switch s.Status {
	case api.Running:
		return s.Fault == api.NoFault && called && s.Pos < lim.Steps
	case api.Done:
		return s.Fault == api.NoFault && len(s.Calls) == 0
	case api.Faulty:
		return isIn(s.Fault, api.FaultDiv, api.FaultKind) && called
	}
	return false
}

func mayCall(c api.Code, s api.State) bool {
	height := heightsOf(c)
	for n, x := range s.Calls {
		if !isCall(c, x, len(s.Heap)) || n == 0 && x.Unit != c.Main {
			return false
		}
		// What stands outside may be asked what it calls only where both are known to be calls.
		if n > 0 && !isCaller(c, s.Calls[n-1], x, height) {
			return false
		}
	}
	return len(s.Calls) == 0 || isInnermost(s.Calls[len(s.Calls)-1], s.Status, height)
}

// isCall tells whether a call is right by itself, among so many objects.
func isCall(c api.Code, x api.Called, objects int) bool {
	if !isIn(x.Unit, 0, len(c.Units)-1) {
		return false
	}
	u := c.Units[x.Unit]
	return isIn(x.At, 0, len(u.Ins)-1) &&
		(x.Mark == noMark || isIn(x.Mark, 0, len(u.Ins)-1) && u.Ins[x.Mark].Op == api.OpMark) &&
		len(x.Slots) == u.Slots &&
		areRight(x.Slots, objects) && areRight(x.Stack, objects)
}

// isCaller tells whether a call stands just behind where it called another one. Where nobody comes to the height is -1, which no stack has.
func isCaller(c api.Code, outer, inner api.Called, height func(unit, at int) int) bool {
	at := outer.At - 1
	return at >= 0 &&
		c.Units[outer.Unit].Ins[at] == api.Ins{Op: api.OpCall, A: inner.Unit} &&
		len(outer.Stack) == height(outer.Unit, at)-c.Units[inner.Unit].Params
}

// isInnermost tells whether a call may be where a run stands. Its Mark is one, if there is any, so where that is At, a mark stands there.
func isInnermost(x api.Called, status api.Status, height func(unit, at int) int) bool {
	return len(x.Stack) == height(x.Unit, x.At) && (x.Mark == x.At || status != api.Running)
}

// heightsOf tells what tells the height at which an instruction is reached; it asks for each unit once at most, since a whole code is gone through each time.
func heightsOf(c api.Code) func(unit, at int) int {
	known := map[int][]int{}
	return func(unit, at int) int {
		if known[unit] == nil {
			known[unit], _ = code.Heights(c, unit)
		}
		return known[unit][at]
	}
}

func areRight(l []api.Val, objects int) bool {
	for _, v := range l {
		if heap.Check(v, objects) != api.OK {
			return false
		}
	}
	return true
}
