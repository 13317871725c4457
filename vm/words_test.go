package vm

import (
	"math/big"
	"slices"
	"strings"

	"hindcast/api"
	"hindcast/code"
	"hindcast/heap"
)

// This file is the chapter's words gone through another way: a state is a value, an instruction leads from one to another one, and what it wants of its values is told by patterns.

// kindsByWords are the kinds of values that an instruction takes, the lowest on the stack first: n a number, t a truth, s a text, r a reference, c anything but none, * anything; what is parted by blanks may all be.
var kindsByWords = map[api.Op]string{
	api.OpStore: "*", api.OpPop: "*", api.OpAdd: "nn ss", api.OpSub: "nn", api.OpMul: "nn", api.OpDiv: "nn", api.OpRem: "nn",
	api.OpNeg: "n", api.OpNot: "t", api.OpEq: "**", api.OpNe: "**", api.OpLt: "nn ss", api.OpLe: "nn ss", api.OpGt: "nn ss", api.OpGe: "nn ss",
	api.OpUnless: "t", api.OpIndex: "rn", api.OpSetIndex: "rnc", api.OpField: "r", api.OpSetField: "rc", api.OpLen: "r s", api.OpShow: "n t s", api.OpFill: "nc",
}

func wantedByWords(c api.Code, i api.Ins) string {
	switch i.Op {
	case api.OpCall:
		return strings.Repeat("*", c.Units[i.A].Params)
	case api.OpReturn, api.OpPrint:
		return strings.Repeat("*", i.A)
	case api.OpArray:
		return strings.Repeat("c", i.A)
	case api.OpNew:
		return strings.Repeat("c", len(c.Shapes[i.A].Fields))
	}
	return kindsByWords[i.Op]
}

func fitsByWords(pattern string, l []api.Val) bool {
	for n, v := range l {
		letter := map[api.ValKind]string{api.VInt: "nc*", api.VBool: "tc*", api.VStr: "sc*", api.VRef: "rc*", api.VNone: "*"}[v.Kind]
		if !strings.Contains(letter, pattern[n:n+1]) {
			return false
		}
	}
	return true
}

// fieldByWords tells a field's cell, -1, if there is no such field.
func fieldByWords(c api.Code, s api.State, r api.Val, name string) int {
	for _, shape := range c.Shapes {
		if shape.Name == s.Heap[r.N].Tag {
			return slices.Index(shape.Fields, name)
		}
	}
	return -1
}

func beginByWords(c api.Code, input []int, lim api.Limits) api.State {
	s := api.State{Calls: []api.Called{{Unit: c.Main, Mark: -1, Slots: make([]api.Val, c.Units[c.Main].Slots)}}}
	return standByWords(c, input, lim, s)
}

// stepByWords tells the position behind one at which a run is Running.
func stepByWords(c api.Code, input []int, lim api.Limits, s api.State) api.State {
	s = cloned(s)
	s.Calls[len(s.Calls)-1].At++
	s.Pos++
	return standByWords(c, input, lim, s)
}

// standByWords goes on until the run is at a position.
func standByWords(c api.Code, input []int, lim api.Limits, s api.State) api.State {
	s = cloned(s)
	for done := 0; ; done++ {
		if s.Status != api.Running {
			return s
		}
		x := &s.Calls[len(s.Calls)-1]
		i := c.Units[x.Unit].Ins[x.At]
		fault := api.NoFault
		if i.Op == api.OpMark {
			x.Mark = x.At
			if s.Pos < lim.Steps {
				return s
			}
			fault = api.FaultSteps
		} else if fault = faultByWords(c, input, lim, s, i); fault == api.NoFault && done == 65536 {
			fault = api.FaultSteps
		}
		if fault != api.NoFault {
			s.Status, s.Fault = api.Faulty, fault
			return s
		}
		doByWords(c, input, &s, i)
	}
}

// takenByWords tells the values that an instruction takes, which stay where they are.
func takenByWords(c api.Code, s api.State, i api.Ins) []api.Val {
	n, _, _ := strings.Cut(wantedByWords(c, i), " ")
	stack := innermost(s).Stack
	return slices.Clone(stack[len(stack)-len(n):])
}

func faultByWords(c api.Code, input []int, lim api.Limits, s api.State, i api.Ins) api.Fault {
	l := takenByWords(c, s, i)
	if !slices.ContainsFunc(strings.Split(wantedByWords(c, i), " "), func(p string) bool { return fitsByWords(p, l) }) {
		return api.FaultKind
	}
	used := len(s.Heap)
	for _, o := range s.Heap {
		used += len(o.Cells)
	}
	switch i.Op {
	case api.OpAdd:
		if len(l[0].S+l[1].S) > 255 {
			return api.FaultText
		}
	case api.OpDiv, api.OpRem:
		if l[1].N == 0 {
			return api.FaultDiv
		}
	case api.OpCall:
		if len(s.Calls) >= lim.Frames {
			return api.FaultFrames
		}
	case api.OpArray, api.OpNew:
		if used+1+len(l) > lim.Heap {
			return api.FaultHeap
		}
	case api.OpFill:
		if l[0].N < 0 || l[0].N > 4096 {
			return api.FaultSize
		}
		if used+1+l[0].N > lim.Heap {
			return api.FaultHeap
		}
	case api.OpIndex, api.OpSetIndex:
		if l[1].N < 0 || l[1].N >= len(s.Heap[l[0].N].Cells) {
			return api.FaultIndex
		}
	case api.OpField, api.OpSetField:
		n := fieldByWords(c, s, l[0], c.Strs[i.A])
		if n < 0 {
			return api.FaultKind
		}
		if n >= len(s.Heap[l[0].N].Cells) {
			return api.FaultIndex
		}
	case api.OpInput:
		if s.Read == len(input) {
			return api.FaultInput
		}
	case api.OpPrint:
		if len(s.Out)+len(lineByWords(s, l)) > lim.Out {
			return api.FaultOut
		}
	}
	return api.NoFault
}

func plainByWords(s api.State, v api.Val) string {
	if v.Kind == api.VStr {
		return v.S
	}
	h, _ := heap.Load(4096, s.Heap)
	return h.Show(v)
}

func lineByWords(s api.State, l []api.Val) string {
	var parts []string
	for _, v := range l {
		parts = append(parts, plainByWords(s, v))
	}
	return strings.Join(parts, " ") + "\n"
}

// doByWords does an instruction that has no fault.
func doByWords(c api.Code, input []int, s *api.State, i api.Ins) {
	l := takenByWords(c, *s, i)
	x := &s.Calls[len(s.Calls)-1]
	x.Stack = x.Stack[:len(x.Stack)-len(l)]
	x.At++
	put := func(v api.Val) { x.Stack = append(x.Stack, v) }
	object := func(tag string, cells []api.Val) {
		s.Heap = append(s.Heap, api.Obj{Tag: tag, Cells: cells})
		put(ref(len(s.Heap) - 1))
	}
	switch i.Op {
	case api.OpInt:
		put(num(i.A))
	case api.OpBool:
		put(boolean(i.A))
	case api.OpStr:
		put(txt(c.Strs[i.A]))
	case api.OpLoad:
		put(x.Slots[i.A])
	case api.OpStore:
		x.Slots[i.A] = l[0]
	case api.OpPop, api.OpMark:
	case api.OpJump:
		x.At = i.A
	case api.OpUnless:
		if l[0].N == 0 {
			x.At = i.A
		}
	case api.OpCall:
		u := c.Units[i.A]
		s.Calls = append(s.Calls, api.Called{Unit: i.A, Mark: -1, Slots: append(l, make([]api.Val, u.Slots-u.Params)...)})
	case api.OpReturn:
		s.Calls = s.Calls[:len(s.Calls)-1]
		if len(s.Calls) == 0 {
			s.Status = api.Done
		} else {
			x = &s.Calls[len(s.Calls)-1]
			x.Stack = append(x.Stack, l...)
		}
	case api.OpArray:
		object("", l)
	case api.OpNew:
		object(c.Shapes[i.A].Name, l)
	case api.OpFill:
		object("", slices.Repeat(l[1:], l[0].N))
	case api.OpIndex:
		put(s.Heap[l[0].N].Cells[l[1].N])
	case api.OpSetIndex:
		s.Heap[l[0].N].Cells[l[1].N] = l[2]
	case api.OpField:
		put(s.Heap[l[0].N].Cells[fieldByWords(c, *s, l[0], c.Strs[i.A])])
	case api.OpSetField:
		s.Heap[l[0].N].Cells[fieldByWords(c, *s, l[0], c.Strs[i.A])] = l[1]
	case api.OpLen:
		if l[0].Kind == api.VStr {
			put(num(len(l[0].S)))
		} else {
			put(num(len(s.Heap[l[0].N].Cells)))
		}
	case api.OpShow:
		put(txt(plainByWords(*s, l[0])))
	case api.OpInput:
		put(num(input[s.Read]))
		s.Read++
	case api.OpPrint:
		s.Out += lineByWords(*s, l)
	default:
		put(reckonByWords(i.Op, l))
	}
}

// reckonByWords tells what is made of values by signs: of numbers it goes by such as have no bounds.
func reckonByWords(op api.Op, l []api.Val) api.Val {
	is := func(b bool) api.Val {
		if b {
			return boolean(1)
		}
		return boolean(0)
	}
	switch op {
	case api.OpEq:
		return is(l[0] == l[1])
	case api.OpNe:
		return is(!(l[0] == l[1]))
	case api.OpNot:
		return boolean(1 - l[0].N)
	}
	if l[0].Kind == api.VStr && op == api.OpAdd {
		return txt(l[0].S + l[1].S)
	}
	a, b := big.NewInt(int64(l[0].N)), big.NewInt(0)
	if len(l) > 1 {
		b = big.NewInt(int64(l[1].N))
	}
	sign := a.Cmp(b)
	if l[0].Kind == api.VStr {
		sign = strings.Compare(l[0].S, l[1].S)
	}
	switch op {
	case api.OpLt:
		return is(sign < 0)
	case api.OpLe:
		return is(sign < 1)
	case api.OpGt:
		return is(sign > 0)
	case api.OpGe:
		return is(sign > -1)
	case api.OpAdd:
		a.Add(a, b)
	case api.OpSub:
		a.Sub(a, b)
	case api.OpMul:
		a.Mul(a, b)
	case api.OpDiv:
		a.Quo(a, b)
	case api.OpRem:
		a.Rem(a, b)
	case api.OpNeg:
		a.Neg(a)
	}
	around := new(big.Int).Lsh(big.NewInt(1), 64)
	a.Mod(a, around)
	if !a.IsInt64() {
		a.Sub(a, around)
	}
	return num(int(a.Int64()))
}

func lookByWords(c api.Code, s api.State) api.Look {
	l := api.Look{Pos: s.Pos, Status: s.Status, Fault: s.Fault, Out: s.Out}
	for _, x := range s.Calls {
		u := c.Units[x.Unit]
		f := api.Frame{Func: u.Name}
		if x.Mark >= 0 {
			f.Line = u.Ins[x.Mark].A
		}
		for _, v := range u.Vars {
			if x.Mark >= v.From && x.Mark < v.To {
				f.Vars = append(f.Vars, api.Bind{Name: v.Name, Value: x.Slots[v.Slot]})
			}
		}
		l.Frames = append(l.Frames, f)
	}
	return l
}

// mayBeByWords tells whether a state may be, each of the chapter's words by itself.
func mayBeByWords(c api.Code, input []int, lim api.Limits, s api.State) bool {
	is := s.Pos >= 0 && s.Pos <= lim.Steps
	is = is && slices.Contains([]api.Status{api.Running, api.Done, api.Faulty}, s.Status)
	is = is && (s.Fault != 0) == (s.Status == api.Faulty) && s.Fault >= 0 && s.Fault <= 10
	is = is && (s.Status == api.Done && len(s.Calls) == 0 || s.Status != api.Done && len(s.Calls) >= 1 && len(s.Calls) <= lim.Frames)
	is = is && (len(s.Calls) == 0 || s.Calls[0].Unit == c.Main)
	_, err := heap.Load(lim.Heap, s.Heap)
	is = is && err == api.OK
	is = is && len(s.Out) <= lim.Out && s.Read >= 0 && s.Read <= len(input)
	is = is && (s.Status != api.Running || s.Pos < lim.Steps)
	for _, x := range s.Calls {
		is = is && x.Unit >= 0 && x.Unit < len(c.Units)
		is = is && x.At >= 0 && x.At < len(c.Units[x.Unit].Ins)
		is = is && (x.Mark == -1 || x.Mark >= 0 && x.Mark < len(c.Units[x.Unit].Ins) && c.Units[x.Unit].Ins[x.Mark].Op == api.OpMark)
		is = is && len(x.Slots) == c.Units[x.Unit].Slots
		for _, v := range slices.Concat(x.Slots, x.Stack) {
			is = is && heap.Check(v, len(s.Heap)) == api.OK
		}
	}
	for n := 0; is && n < len(s.Calls); n++ {
		x := s.Calls[n]
		heights, _ := code.Heights(c, x.Unit)
		if n == len(s.Calls)-1 {
			is = heights[x.At] == len(x.Stack)
			is = is && (s.Status != api.Running || x.Mark == x.At)
			continue
		}
		is = x.At > 0 && heights[x.At-1] >= 0
		is = is && c.Units[x.Unit].Ins[x.At-1].Op == api.OpCall && c.Units[x.Unit].Ins[x.At-1].A == s.Calls[n+1].Unit
		is = is && heights[x.At-1]-len(x.Stack) == c.Units[s.Calls[n+1].Unit].Params
	}
	return is
}
