package snap

import (
	"bytes"
	"fmt"
	"math"
	"reflect"
	"slices"
	"strings"
	"testing"
	"unsafe"

	"hindcast/api"
)

// P10.2, P10.3: the bytes of states, written out; the first two are the chapter's examples.
func TestBytes(t *testing.T) {
	for _, x := range []struct {
		what, want string
		s          api.State
	}{
		{"zero", "\x00\x00\x00\x00\x00\x00\x00", api.State{}},
		{
			"Out, and an object",
			"\x00\x00\x00\x00\x02a\x00\x02\x02P\x02\x04\x02",
			api.State{Out: "a", Heap: []api.Obj{obj("P", truth(1))}},
		},
		{
			"each number another one",
			"\x02" + "\x04" + "\x06" + "\x08" + "\x00" + "\x02" + "\x0a\x0c\x0e\x00\x00" + "\x00",
			api.State{Pos: 1, Status: 2, Fault: 3, Read: 4, Calls: []api.Called{{Unit: 5, At: 6, Mark: 7}}},
		},
		{
			"all there is",
			"\xd8\x04" + "\x04" + "\x10" + "\x8c\x01" + "\x08a\n\x00\xff" +
				"\x06" +
				"\x00\x08\x01" + "\x06" + "\x00" + "\x02\x01" + "\x06\x06b\"\n" + "\x04" + "\x06\x00" + "\x08\x00" +
				"\x04\xc8\x01\xc6\x01" + "\x02" + "\x08\x04" + "\x06" + "\x00" + "\x04\x00" + "\x02\x80\x80\x80\x80\x80\x40" +
				"\x02\x00\x00" + "\x00" + "\x00" +
				"\x06" +
				"\x02P" + "\x06" + "\x04\x02" + "\x08\x04" + "\x06\x02x" +
				"\x00" + "\x00" +
				"\x00" + "\x04" + "\x08\x02" + "\x02\x0e",
			full(),
		},
	} {
		expect(t, x.what+", by the chapter's words", fmt.Sprintf("%x", bytesOf(pieces(x.s))), fmt.Sprintf("%x", x.want))
		b, err := Bytes(x.s)
		expect(t, x.what, fmt.Sprintf("%x", b), fmt.Sprintf("%x", x.want))
		expect(t, x.what+": the error", err, api.OK)
		back, err := Load([]byte(x.want))
		expect(t, x.what+": Load's error", err, api.OK)
		if !same(back, x.s) {
			t.Errorf("%s: %v, not %v", x.what, back, x.s)
		}
	}
}

// P10.4: there and back, for states with something of everything, with the most of it, and with numbers of all lengths.
func TestThereAndBack(t *testing.T) {
	expectState(t, "zero", api.State{}, true)
	expectState(t, "full", full(), true)
	expectState(t, "the biggest", biggest(), true)
	for _, n := range []int{0, 1, 63, 64, 8191, 8192, 1 << 20, 1 << 40, math.MaxInt} {
		s := changed(full(), func(s *api.State) {
			s.Pos, s.Read, s.Calls[0].Unit, s.Calls[1].At, s.Calls[2].Mark = n, n, n, n, n
			s.Calls[2].Stack, s.Calls[2].Slots, s.Heap[1].Cells = vals(num(n)), vals(num(-n)), vals(num(-n-1))
		})
		expectState(t, fmt.Sprint("the number ", n), s, true)
	}
	empty := api.State{Calls: []api.Called{{Slots: []api.Val{}, Stack: []api.Val{}}}, Heap: []api.Obj{{Cells: []api.Val{}}}}
	expectState(t, "empty lists", empty, true)
	expectState(t, "lists that are nil", plain(empty), true)
	expectState(t, "no calls and no objects", api.State{Calls: []api.Called{}, Heap: []api.Obj{}}, true)
}

// P10.4: no two states that differ somewhere have the same bytes.
func TestDifferent(t *testing.T) {
	seen := map[string]api.State{}
	var all []api.State
	for _, do := range []func(s *api.State){
		func(s *api.State) {},
		func(s *api.State) { s.Pos++ },
		func(s *api.State) { s.Status = api.Done },
		func(s *api.State) { s.Fault++ },
		func(s *api.State) { s.Read++ },
		func(s *api.State) { s.Out += "a" },
		func(s *api.State) { s.Calls = s.Calls[:2] },
		func(s *api.State) { s.Calls[1].Unit++ },
		func(s *api.State) { s.Calls[1].At++ },
		func(s *api.State) { s.Calls[1].Mark++ },
		func(s *api.State) { s.Calls[1].Slots = append(s.Calls[1].Slots, none) },
		func(s *api.State) { s.Calls[1].Stack = append(s.Calls[1].Stack, none) },
		func(s *api.State) { s.Calls[0], s.Calls[1] = s.Calls[1], s.Calls[0] },
		func(s *api.State) { s.Heap = append(s.Heap, obj("")) },
		func(s *api.State) { s.Heap[1].Tag = "P" },
		func(s *api.State) { s.Heap[0], s.Heap[1] = s.Heap[1], s.Heap[0] },
		func(s *api.State) { s.Heap[0].Cells = append(s.Heap[0].Cells, num(0)) },
	} {
		all = append(all, changed(full(), do))
	}
	for _, x := range valued {
		if x.cell {
			all = append(all, changed(full(), func(s *api.State) { s.Heap[1].Cells = vals(x.v) }))
			all = append(all, changed(full(), func(s *api.State) { s.Calls[2].Slots = vals(x.v) }))
			all = append(all, changed(full(), func(s *api.State) { s.Calls[2].Stack = vals(x.v) }))
		}
	}
	for _, s := range all {
		b, err := Bytes(s)
		expect(t, "Bytes", err, api.OK)
		if other, is := seen[string(b)]; is {
			t.Errorf("%v and %v have the same bytes", s, other)
		}
		seen[string(b)] = s
	}
}

// within tells whether a text lies in the memory of another.
func within(x, s string) bool {
	p, from := uintptr(unsafe.Pointer(unsafe.StringData(x))), uintptr(unsafe.Pointer(unsafe.StringData(s)))
	return x != "" && s != "" && from <= p && p < from+uintptr(len(s))
}

// allTexts tells all texts of a state.
func allTexts(s api.State) []string {
	l := []string{s.Out}
	values := func(all []api.Val) {
		for _, v := range all {
			l = append(l, v.S)
		}
	}
	for _, c := range s.Calls {
		values(c.Slots)
		values(c.Stack)
	}
	for _, o := range s.Heap {
		l = append(l, o.Tag)
		values(o.Cells)
	}
	return l
}

func fill[T any](l []T, x T) {
	for i := range l {
		l[i] = x
	}
}

// spoil writes over all lists of a state, and over what stands behind them.
func spoil(s api.State) {
	bad := api.Val{Kind: -1, N: 77, S: "?"}
	for _, c := range s.Calls {
		fill(c.Slots[:cap(c.Slots)], bad)
		fill(c.Stack[:cap(c.Stack)], bad)
	}
	for _, o := range s.Heap {
		fill(o.Cells[:cap(o.Cells)], bad)
	}
	fill(s.Calls[:cap(s.Calls)], api.Called{Unit: -77})
	fill(s.Heap[:cap(s.Heap)], api.Obj{Tag: "?"})
}

// withTexts tells a state whose texts are longer than a byte, such as the library keeps for itself, and alike in many places.
func withTexts() api.State {
	return changed(full(), func(s *api.State) {
		s.Out = "shared"
		for i := range s.Calls {
			s.Calls[i].Slots, s.Calls[i].Stack = vals(txt("shared"), txt("shared")), vals(txt("shared"), num(i))
		}
		for i := range s.Heap {
			s.Heap[i] = obj("shared", txt("shared"), txt("shared"))
		}
	})
}

// The rules: an answer is new memory, and nothing is kept.
func TestNewMemory(t *testing.T) {
	s := withTexts()
	first, _ := Bytes(s)
	second, _ := Bytes(s)
	want := slices.Clone(first)
	fill(second[:cap(second)], '?')
	if !bytes.Equal(first, want) {
		t.Error("bytes are shared")
	}

	given := slices.Clone(first)
	a, _ := Load(given)
	b, _ := Load(given)
	fill(given, '?')
	texts := append(allTexts(a), allTexts(b)...)
	for n, x := range texts {
		if within(x, unsafe.String(&given[0], len(given))) {
			t.Fatalf("the text %q is a piece of the bytes", x)
		}
		for m, other := range texts {
			if n != m && within(x, other) {
				t.Fatalf("the texts %q and %q are shared", x, other)
			}
		}
	}
	spoil(b)
	if !same(a, withTexts()) {
		t.Errorf("a state that was loaded is spoilt: %v", a)
	}
	// Lists of one answer share nothing, what stands behind their ends neither.
	for i := range a.Calls {
		fill(a.Calls[i].Slots[:cap(a.Calls[i].Slots)], none)
	}
	for i, c := range a.Calls {
		expect(t, "a stack behind slots that were spoilt", fmt.Sprint(c.Stack), fmt.Sprint(withTexts().Calls[i].Stack))
	}
	expect(t, "objects behind slots that were spoilt", fmt.Sprint(a.Heap), fmt.Sprint(withTexts().Heap))

	Bytes(s)
	Check(s)
	spoil(s)
	if again, err := Bytes(withTexts()); err != api.OK || !bytes.Equal(again, want) {
		t.Error("what was handed in is kept")
	}
}

// The rules: what is handed in is not changed, and what stands behind a list's end neither.
func TestGivenStays(t *testing.T) {
	room := changed(full(), func(s *api.State) {
		behind := api.Val{Kind: api.VStr, S: "behind"}
		for i := range s.Calls {
			s.Calls[i].Slots = append(s.Calls[i].Slots, behind)
			s.Calls[i].Stack = append(s.Calls[i].Stack, behind)
		}
		for i := range s.Heap {
			s.Heap[i].Cells = append(s.Heap[i].Cells, behind)
		}
		s.Calls = append(s.Calls, api.Called{Unit: -5})
		s.Heap = append(s.Heap, api.Obj{Tag: "?"})
	})
	was := cloned(room)
	s := room
	s.Calls, s.Heap = slices.Clone(room.Calls[:3]), slices.Clone(room.Heap[:3])
	for i, c := range s.Calls {
		s.Calls[i].Slots, s.Calls[i].Stack = c.Slots[:len(c.Slots)-1], c.Stack[:len(c.Stack)-1]
	}
	for i, o := range s.Heap {
		s.Heap[i].Cells = o.Cells[:len(o.Cells)-1]
	}
	if !same(s, full()) {
		t.Fatal("the test is wrong")
	}
	expectState(t, "a state with something behind its lists", s, true)
	cut := room
	cut.Calls, cut.Heap = room.Calls[:3], room.Heap[:3]
	expectState(t, "a state with calls and objects behind its own", cut, true)
	if !reflect.DeepEqual(room, was) {
		t.Error("what stands behind the lists is changed")
	}
	b, _ := Bytes(s)
	given := append(slices.Clone(b), "behind"...)
	if back, err := Load(given[:len(b)]); err != api.OK || !same(back, s) {
		t.Error("bytes with others behind them are not read")
	}
	if !bytes.Equal(given, append(slices.Clone(b), "behind"...)) {
		t.Error("bytes are changed")
	}
}

// P10.2: beside an error there are no bytes.
func TestNoBytes(t *testing.T) {
	for what, do := range map[string]func(s *api.State){
		"Pos":      func(s *api.State) { s.Pos = -1 },
		"the heap": func(s *api.State) { s.Heap = nil },
		"Out":      func(s *api.State) { s.Out = strings.Repeat("a", 4097) },
		"a cell":   func(s *api.State) { s.Heap[2].Cells[1] = none },
	} {
		if b, err := Bytes(changed(full(), do)); b != nil || err != api.ErrArg {
			t.Errorf("%s: %x, %d", what, b, err)
		}
	}
}
