package vm

import (
	"slices"

	"hindcast/api"
)

// doWithHeap does an instruction that asks the heap. What it wants of its values is asked ahead of all else.
func (m *Machine) doWithHeap(c *call, i api.Ins) {
	switch i.Op {
	case api.OpArray:
		c.next(i.A, m.object("", c.top(i.A)))
	case api.OpNew:
		s := m.code.Shapes[i.A]
		n := len(s.Fields)
		c.next(n, m.object(s.Name, c.top(n)))
	case api.OpFill:
		taken := c.top(2)
		c.next(2, m.fill(want(taken[0], api.VInt).N, wantCell(taken[1])))
	case api.OpIndex:
		taken := c.top(2)
		c.next(2, m.cell(want(taken[0], api.VRef), want(taken[1], api.VInt).N))
	case api.OpSetIndex:
		taken := c.top(3)
		m.setCell(want(taken[0], api.VRef), want(taken[1], api.VInt).N, wantCell(taken[2]))
		c.next(3)
	case api.OpField:
		r := want(c.top(1)[0], api.VRef)
		c.next(1, m.cell(r, m.field(r, m.code.Strs[i.A])))
	case api.OpSetField:
		taken := c.top(2)
		r := want(taken[0], api.VRef)
		m.setCell(r, m.field(r, m.code.Strs[i.A]), wantCell(taken[1]))
		c.next(2)
	case api.OpLen:
		c.next(1, number(m.size(c.top(1)[0])))
	case api.OpShow:
		v := c.top(1)[0]
		demand(v.Kind == api.VInt || v.Kind == api.VBool || v.Kind == api.VStr, api.FaultKind)
		c.next(1, text(m.plain(v)))
	}
}

// object makes an object.
func (m *Machine) object(tag string, cells []api.Val) api.Val {
	for _, v := range cells {
		wantCell(v)
	}
	v, err := m.heap.Alloc(tag, cells)
	demand(err == api.OK, api.FaultHeap)
	return v
}

func (m *Machine) fill(n int, x api.Val) api.Val {
	demand(isIn(n, 0, api.MaxHeap), api.FaultSize)
	return m.object("", slices.Repeat([]api.Val{x}, n))
}

func (m *Machine) cell(r api.Val, n int) api.Val {
	v, err := m.heap.Get(r, n)
	demand(err == api.OK, api.FaultIndex)
	return v
}

func (m *Machine) setCell(r api.Val, n int, x api.Val) {
	demand(m.heap.Set(r, n, x) == api.OK, api.FaultIndex)
}

// field tells the number of a record's cell, by the shape that the record is tagged with.
func (m *Machine) field(r api.Val, name string) int {
	tag, _ := m.heap.Tag(r)
	for _, s := range m.code.Shapes {
		if n := slices.Index(s.Fields, name); s.Name == tag && n >= 0 {
			return n
		}
	}
	panic(api.FaultKind)
}

// size tells how many cells an object, or how many bytes a text has.
func (m *Machine) size(v api.Val) int {
	if v.Kind == api.VStr {
		return len(v.S)
	}
	n, _ := m.heap.Len(want(v, api.VRef))
	return n
}

// plain tells a text as it is, and all else as the heap shows it.
func (m *Machine) plain(v api.Val) string {
	if v.Kind == api.VStr {
		return v.S
	}
	return m.heap.Show(v)
}
