package heap

import (
	"fmt"
	"math"
	"reflect"
	"strings"
	"testing"
	"unsafe"

	"hindcast/api"
)

// P6.1

func TestCheckRight(t *testing.T) {
	for _, n := range []int{math.MinInt, -1, 0, 1, 4096, math.MaxInt} {
		for _, v := range append(rightValues(), api.Val{}) {
			expect(t, fmt.Sprintf("Check(%v, %d)", v, n), Check(v, n), api.OK)
		}
	}
}

func TestCheckNotRight(t *testing.T) {
	for _, n := range []int{math.MinInt, -1, 0, 1, 4096, math.MaxInt} {
		for _, v := range wrongValues() {
			expect(t, fmt.Sprintf("Check(%.60v, %d)", v, n), Check(v, n), api.ErrArg)
		}
	}
}

func TestCheckBytesOfTexts(t *testing.T) {
	for c := range 256 {
		want := api.ErrArg
		if c == 10 || c >= 32 && c <= 126 {
			want = api.OK
		}
		for _, s := range []string{"%c", "a%c", "%cb", "a%cb"} {
			s = strings.Replace(s, "%c", string([]byte{byte(c)}), 1)
			expect(t, fmt.Sprintf("Check of the text %q", s), Check(txt(s), 0), want)
		}
	}
}

func TestCheckReferences(t *testing.T) {
	for _, c := range []struct {
		to, n int
		want  api.Errno
	}{
		{0, 0, api.ErrArg}, {0, 1, api.OK}, {1, 1, api.ErrArg}, {2, 1, api.ErrArg}, {4, 5, api.OK}, {5, 5, api.ErrArg},
		{0, -1, api.ErrArg}, {-1, 0, api.ErrArg}, {-1, 5, api.ErrArg}, {-2, -1, api.ErrArg}, {math.MinInt, math.MinInt, api.ErrArg},
		{math.MinInt, math.MaxInt, api.ErrArg}, {math.MaxInt - 1, math.MaxInt, api.OK}, {math.MaxInt, math.MaxInt, api.ErrArg}, {1 << 32, 1, api.ErrArg},
	} {
		expect(t, fmt.Sprintf("Check of a reference to %d among %d", c.to, c.n), Check(ref(c.to), c.n), c.want)
		marked := api.Val{Kind: api.VRef, N: c.to, S: "x"}
		expect(t, fmt.Sprintf("Check of a reference to %d among %d with a text", c.to, c.n), Check(marked, c.n), api.ErrArg)
	}
}

// P6.2

func TestAllocNumbers(t *testing.T) {
	h := New(100)
	for n := range 20 {
		expect(t, "an object's reference", mustAlloc(t, h, []string{"", "P"}[n%2], nums(n%5)...), ref(n))
	}
}

func TestAllocExample(t *testing.T) {
	h := New(6)
	a := mustAlloc(t, h, "", num(1), num(2))
	b := mustAlloc(t, h, "P", a, truth(1))
	expect(t, "the first", a, ref(0))
	expect(t, "the second", b, ref(1))
	expect(t, "Used", h.Used(), 6)
	expectObjects(t, "the example", h, 6, obj("", num(1), num(2)), obj("P", ref(0), truth(1)))
}

func TestAllocTags(t *testing.T) {
	h := New(100)
	for n, s := range rightTags() {
		v := mustAlloc(t, h, s, num(n))
		got, err := h.Tag(v)
		expect(t, "Tag", got, s)
		expect(t, "Tag's error", err, api.OK)
	}
	for _, s := range wrongTags() {
		expectNoAlloc(t, h, s, nil, api.ErrArg)
		expectNoAlloc(t, h, s, nums(2), api.ErrArg)
	}
}

func TestAllocCells(t *testing.T) {
	h := New(api.MaxHeap)
	first := mustAlloc(t, h, "", rightValues()...)
	second := mustAlloc(t, h, "P", first)
	mustAlloc(t, h, "", second, first, second)
	expectObjects(t, "right cells", h, api.MaxHeap, obj("", rightValues()...), obj("P", ref(0)), obj("", ref(1), ref(0), ref(1)))
	// An object that is to be made is not there yet: it can't stand within itself.
	for _, v := range append(wrongValues(), api.Val{}, ref(3), ref(4), ref(math.MaxInt)) {
		for _, l := range [][]api.Val{{v}, {v, num(1)}, {num(1), v}, {num(1), first, v, num(2)}} {
			expectNoAlloc(t, h, "", l, api.ErrArg)
			expectNoAlloc(t, h, "P", l, api.ErrArg)
		}
	}
}

func TestAllocFirstOfNone(t *testing.T) {
	expectNoAlloc(t, New(9), "", []api.Val{ref(0)}, api.ErrArg)
	expectNoAlloc(t, New(9), "", []api.Val{ref(-1)}, api.ErrArg)
}

func TestAllocRoom(t *testing.T) {
	for _, c := range []struct{ most, room int }{
		{math.MinInt, 0}, {-1, 0}, {0, 0}, {1, 1}, {2, 2}, {10, 10}, {api.MaxHeap - 1, api.MaxHeap - 1},
		{api.MaxHeap, api.MaxHeap}, {api.MaxHeap + 1, api.MaxHeap}, {math.MaxInt, api.MaxHeap},
	} {
		h := New(c.most)
		expect(t, fmt.Sprintf("room of New(%d)", c.most), room(h), c.room)
		expectNoAlloc(t, h, "", nums(c.room), api.ErrFull)
		expectNoAlloc(t, h, "P", nums(c.room+1), api.ErrFull)
		if c.room > 0 {
			mustAlloc(t, h, "P", nums(c.room-1)...)
		}
		expect(t, fmt.Sprintf("Used of New(%d) when it is full", c.most), h.Used(), c.room)
		expectNoAlloc(t, h, "", nil, api.ErrFull)
		expectNoAlloc(t, h, "P", nums(1), api.ErrFull)
	}
}

func TestAllocRoomBehindOthers(t *testing.T) {
	h := New(10)
	mustAlloc(t, h, "", nums(2)...)
	mustAlloc(t, h, "P", nums(1)...)
	expectNoAlloc(t, h, "", nums(5), api.ErrFull)
	mustAlloc(t, h, "", nums(3)...)
	expectNoAlloc(t, h, "", nums(1), api.ErrFull)
	mustAlloc(t, h, "Q")
	expectNoAlloc(t, h, "", nil, api.ErrFull)
	expectObjects(t, "a full heap", h, 10, obj("", nums(2)...), obj("P", num(0)), obj("", nums(3)...), obj("Q"))
}

func TestAllocArgAheadOfFull(t *testing.T) {
	h := New(1)
	mustAlloc(t, h, "")
	long := append(nums(api.MaxHeap+1), api.Val{})
	for _, l := range [][]api.Val{{{}}, {truth(2)}, {ref(1)}, long} {
		expectNoAlloc(t, h, "", l, api.ErrArg)
	}
	for _, s := range []string{"let", "+", "1", "a b"} {
		expectNoAlloc(t, h, s, nil, api.ErrArg)
	}
	expectNoAlloc(t, h, "P", long[:api.MaxHeap+1], api.ErrFull)
}

// P6.3

// someHeap has an array of three cells, a record of one, an array of none, a record of two.
func someHeap(t *testing.T) (*Heap, []api.Obj) {
	t.Helper()
	l := []api.Obj{obj("", num(7), txt("x"), truth(0)), obj("P", ref(0)), obj(""), obj("Pair", ref(3), num(-1))}
	return mustLoad(t, 20, l...), l
}

// notReferences are no references to one of n objects.
func notReferences(n int) []api.Val {
	return append(append(wrongValues(), rightValues()...), api.Val{}, ref(n), ref(n+1), ref(math.MaxInt))
}

func TestGet(t *testing.T) {
	h, l := someHeap(t)
	for n, o := range l {
		for i, want := range o.Cells {
			v, err := h.Get(ref(n), i)
			expect(t, "Get", v, want)
			expect(t, "Get's error", err, api.OK)
		}
		for _, i := range []int{math.MinInt, -2, -1, len(o.Cells), len(o.Cells) + 1, 1 << 32, math.MaxInt} {
			v, err := h.Get(ref(n), i)
			expect(t, fmt.Sprintf("Get(%d, %d)", n, i), v, api.Val{})
			expect(t, fmt.Sprintf("Get(%d, %d)'s error", n, i), err, api.ErrNone)
		}
	}
	for _, v := range notReferences(4) {
		for _, i := range []int{-1, 0, 9} {
			x, err := h.Get(v, i)
			expect(t, fmt.Sprintf("Get(%v, %d)", v, i), x, api.Val{})
			expect(t, fmt.Sprintf("Get(%v, %d)'s error", v, i), err, api.ErrArg)
		}
	}
	expectObjects(t, "behind Gets", h, 20, l...)
}

func TestLenAndTag(t *testing.T) {
	h, l := someHeap(t)
	for n, o := range l {
		size, err := h.Len(ref(n))
		expect(t, "Len", size, len(o.Cells))
		expect(t, "Len's error", err, api.OK)
		tag, err := h.Tag(ref(n))
		expect(t, "Tag", tag, o.Tag)
		expect(t, "Tag's error", err, api.OK)
	}
	for _, v := range notReferences(4) {
		size, err := h.Len(v)
		expect(t, fmt.Sprintf("Len(%v)", v), size, 0)
		expect(t, fmt.Sprintf("Len(%v)'s error", v), err, api.ErrArg)
		tag, err := h.Tag(v)
		expect(t, fmt.Sprintf("Tag(%v)", v), tag, "")
		expect(t, fmt.Sprintf("Tag(%v)'s error", v), err, api.ErrArg)
	}
	expectObjects(t, "behind Len and Tag", h, 20, l...)
}

func TestSetRefused(t *testing.T) {
	h, l := someHeap(t)
	expectRefused := func(v api.Val, i int, x api.Val, want api.Errno) {
		t.Helper()
		expect(t, fmt.Sprintf("Set(%.60v, %d, %.60v)", v, i, x), h.Set(v, i, x), want)
	}
	notCells := append(wrongValues(), api.Val{}, ref(4), ref(5))
	for _, v := range notReferences(4) {
		for _, i := range []int{-1, 0, 9} {
			expectRefused(v, i, num(1), api.ErrArg)
			expectRefused(v, i, api.Val{}, api.ErrArg)
		}
	}
	for n, o := range l {
		for _, i := range []int{math.MinInt, -1, len(o.Cells), len(o.Cells) + 1, math.MaxInt} {
			expectRefused(ref(n), i, num(5), api.ErrNone)
			expectRefused(ref(n), i, ref(3), api.ErrNone)
		}
		for _, x := range notCells {
			for _, i := range []int{-1, 0, len(o.Cells)} {
				expectRefused(ref(n), i, x, api.ErrArg)
			}
		}
	}
	expectObjects(t, "behind Sets that are refused", h, 20, l...)
}

// P6.8 (and P6.3)

func TestSetOneCell(t *testing.T) {
	for n, o := range []int{3, 1, 0, 2} {
		for i := range o {
			for _, x := range append(rightValues(), ref(0), ref(1), ref(2), ref(3)) {
				h, l := someHeap(t)
				mustSet(t, h, ref(n), i, x)
				got, err := h.Get(ref(n), i)
				expect(t, "what was set", got, x)
				expect(t, "Get's error", err, api.OK)
				l[n].Cells[i] = x
				expectObjects(t, fmt.Sprintf("cell %d of %d is %v", i, n, x), h, 20, l...)
			}
		}
	}
}

func TestSetOfAFullHeap(t *testing.T) {
	h := New(3)
	a := mustAlloc(t, h, "", nums(2)...)
	mustSet(t, h, a, 1, a)
	mustSet(t, h, a, 0, txt("new"))
	expectObjects(t, "a full heap that is set", h, 3, obj("", txt("new"), ref(0)))
}

func TestSetBetweenAllocs(t *testing.T) {
	h := New(50)
	var l []api.Obj
	for n := range 9 {
		mustAlloc(t, h, "", num(n), num(-n))
		l = append(l, obj("", num(n), num(-n)))
		mustSet(t, h, ref(n/2), n%2, ref(n))
		l[n/2].Cells[n%2] = ref(n)
		expectObjects(t, "Sets between Allocs", h, 50, l...)
	}
}

// P6.4

func TestLoad(t *testing.T) {
	for _, l := range [][]api.Obj{
		nil,
		{},
		{obj("")},
		{obj("P")},
		{obj("", rightValues()...)},
		{obj("", num(1)), obj("P", ref(0))},
		{obj("", ref(1)), obj("P", num(1))}, // a later one
		{obj("", ref(0))},                   // itself
		{obj("P", ref(2), ref(1)), obj("", ref(0)), {}},  // one another
		{obj("", ref(2)), obj("", ref(2)), obj("Q_9")},   // one from two
		{obj(strings.Repeat("w", 20)), obj("_", ref(1))}, // a name as long as may be
	} {
		used := model{l: l}.Used()
		for _, most := range []int{used, used + 1, api.MaxHeap, api.MaxHeap + 1, math.MaxInt} {
			expectObjects(t, fmt.Sprintf("Load(%d, %v)", most, l), mustLoad(t, most, l...), most, l...)
		}
		if used > 0 {
			expectNoLoad(t, used-1, l, api.ErrFull)
			expectNoLoad(t, 0, l, api.ErrFull)
			expectNoLoad(t, -1, l, api.ErrFull)
			expectNoLoad(t, math.MinInt, l, api.ErrFull)
		}
	}
	expectObjects(t, "Load of none below 0", mustLoad(t, -1), 0)
	expectObjects(t, "Load of none far below 0", mustLoad(t, math.MinInt), 0)
}

func TestLoadFull(t *testing.T) {
	many := make([]api.Obj, api.MaxHeap+1)
	long := nums(api.MaxHeap)
	for _, most := range []int{api.MaxHeap, api.MaxHeap + 1, math.MaxInt} {
		expect(t, "as many objects as may be", mustLoad(t, most, many[1:]...).Used(), api.MaxHeap)
		expectNoLoad(t, most, many, api.ErrFull)
		expect(t, "as many cells as may be", mustLoad(t, most, obj("P", long[1:]...)).Used(), api.MaxHeap)
		expectNoLoad(t, most, []api.Obj{obj("P", long...)}, api.ErrFull)
		expect(t, "both", mustLoad(t, most, obj("", long[2:]...), obj("")).Used(), api.MaxHeap)
		expectNoLoad(t, most, []api.Obj{obj("", long[1:]...), obj("")}, api.ErrFull)
	}
}

func TestLoadRefused(t *testing.T) {
	fine := obj("P", num(1), ref(0))
	refuse := func(bad api.Obj) {
		t.Helper()
		for _, l := range [][]api.Obj{{bad}, {fine, bad}, {bad, fine}, {fine, bad, fine}} {
			for _, most := range []int{-1, 0, 1, api.MaxHeap} { // ErrArg is told ahead of ErrFull
				expectNoLoad(t, most, l, api.ErrArg)
			}
		}
	}
	for _, s := range wrongTags() {
		refuse(obj(s))
		refuse(obj(s, num(1)))
	}
	for _, v := range append(wrongValues(), api.Val{}, ref(3), ref(4), ref(math.MaxInt)) {
		refuse(obj("", v))
		refuse(obj("P", num(1), v, num(2)))
		refuse(obj("P", num(1), num(2), v))
	}
	// One that is behind the last is there of as many as there are.
	expectNoLoad(t, 99, []api.Obj{obj("", ref(1))}, api.ErrArg)
	expectNoLoad(t, 99, []api.Obj{obj("", ref(2)), obj("")}, api.ErrArg)
	expectNoLoad(t, 99, []api.Obj{obj(""), obj("", ref(2))}, api.ErrArg)
	late := append(make([]api.Obj, api.MaxHeap+1), obj("let"))
	expectNoLoad(t, 99, late, api.ErrArg)
}

func TestLoadGoesOn(t *testing.T) {
	h := mustLoad(t, 8, obj("", ref(1)), obj("P", num(2)))
	expect(t, "the next object's reference", mustAlloc(t, h, "Q", ref(1), ref(0)), ref(2))
	mustSet(t, h, ref(0), 0, ref(2))
	expectNoAlloc(t, h, "", nums(1), api.ErrFull)
	expectObjects(t, "a heap that was loaded", h, 8, obj("", ref(2)), obj("P", num(2)), obj("Q", ref(1), ref(0)))
}

func TestAllAndUsed(t *testing.T) {
	h := New(50)
	expect(t, "All of an empty heap", len(h.All()), 0)
	expect(t, "Used of an empty heap", h.Used(), 0)
	var want []api.Obj
	used := 0
	for n := range 6 {
		mustAlloc(t, h, []string{"", "P", "Q"}[n%3], nums(n)...)
		want = append(want, obj([]string{"", "P", "Q"}[n%3], nums(n)...))
		used += 1 + n
		expect(t, "Used", h.Used(), used)
		all := h.All()
		for i := range all {
			all[i].Cells = append([]api.Val(nil), all[i].Cells...)
		}
		if !reflect.DeepEqual(all, want) {
			t.Errorf("All: %v, not %v", all, want)
		}
	}
}

func TestCopy(t *testing.T) {
	h, l := someHeap(t)
	c := h.Copy()
	expectObjects(t, "a copy", c, 20, l...)

	mustSet(t, c, ref(0), 0, txt("of the copy"))
	expectObjects(t, "the original of a copy that is set", h, 20, l...)
	mustSet(t, h, ref(0), 2, txt("of the original"))
	expectObjects(t, "the original", h, 20, obj("", num(7), txt("x"), txt("of the original")), l[1], l[2], l[3])
	expectObjects(t, "the copy", c, 20, obj("", txt("of the copy"), txt("x"), truth(0)), l[1], l[2], l[3])

	mustAlloc(t, c, "C", nums(2)...)
	mustAlloc(t, h, "H", ref(0))
	expectObjects(t, "the original, with one more", h, 20, obj("", num(7), txt("x"), txt("of the original")), l[1], l[2], l[3], obj("H", ref(0)))
	expectObjects(t, "the copy, with one more", c, 20, obj("", txt("of the copy"), txt("x"), truth(0)), l[1], l[2], l[3], obj("C", nums(2)...))
}

// Each of two copies grows into room of its own, however much their original had.
func TestCopiesGrow(t *testing.T) {
	for n := range 40 {
		h := New(api.MaxHeap)
		var l []api.Obj
		for range n {
			mustAlloc(t, h, "", num(n))
			l = append(l, obj("", num(n)))
		}
		one, two := h.Copy(), h.Copy()
		mustAlloc(t, one, "One", num(1))
		mustAlloc(t, two, "Two", num(2))
		mustAlloc(t, h, "Three", num(3))
		expectObjects(t, "one", one, api.MaxHeap, append(l[:n:n], obj("One", num(1)))...)
		expectObjects(t, "two", two, api.MaxHeap, append(l[:n:n], obj("Two", num(2)))...)
		expectObjects(t, "three", h, api.MaxHeap, append(l[:n:n], obj("Three", num(3)))...)
	}
}

func TestCopyOfACopy(t *testing.T) {
	h := New(2)
	c := h.Copy().Copy()
	mustAlloc(t, c, "", num(1))
	expectNoAlloc(t, c, "", nil, api.ErrFull)
	expectObjects(t, "the first", h, 2)
	expectObjects(t, "the last", c, 2, obj("", num(1)))
}

// P6.6

func TestBack(t *testing.T) {
	h, l := someHeap(t)
	mustAlloc(t, h, "Long", rightValues()[:8]...)
	l = append(l, obj("Long", rightValues()[:8]...))
	for what, other := range map[string]*Heap{"Load of All": mustLoad(t, 20, h.All()...), "Copy": h.Copy()} {
		expect(t, what, told(other), told(h))
		expect(t, what+": room", room(other), room(h))
		if !reflect.DeepEqual(other.All(), h.All()) {
			t.Errorf("%s: %v, not %v", what, other.All(), h.All())
		}
		expectObjects(t, what, other, 20, l...)
	}
}

// Each call of no heap, or of one that nothing made

func TestNoHeap(t *testing.T) {
	for what, h := range map[string]*Heap{"no heap": nil, "a heap that nothing made": {}} {
		for _, v := range append(append(rightValues(), wrongValues()...), api.Val{}, ref(0)) {
			for _, tag := range []string{"", "P", "let"} {
				x, err := h.Alloc(tag, []api.Val{v})
				expect(t, what+": Alloc", x, api.Val{})
				expect(t, what+": Alloc's error", err, api.ErrNil)
			}
			x, err := h.Get(v, 0)
			expect(t, what+": Get", x, api.Val{})
			expect(t, what+": Get's error", err, api.ErrNil)
			expect(t, what+": Set", h.Set(v, 0, v), api.ErrNil)
			expect(t, what+": Set of none", h.Set(ref(0), 0, api.Val{}), api.ErrNil)
			n, err := h.Len(v)
			expect(t, what+": Len", n, 0)
			expect(t, what+": Len's error", err, api.ErrNil)
			s, err := h.Tag(v)
			expect(t, what+": Tag", s, "")
			expect(t, what+": Tag's error", err, api.ErrNil)
			expect(t, what+": Show", h.Show(v), "")
		}
		x, err := h.Alloc("", nil)
		expect(t, what+": Alloc of no cells", x, api.Val{})
		expect(t, what+": Alloc's error", err, api.ErrNil)
		expect(t, what+": Used", h.Used(), 0)
		expect(t, what+": All", len(h.All()), 0)
		expect(t, what+": Copy", h.Copy(), nil)
		expect(t, what+": Show of none", h.Show(api.Val{}), "")
	}
}

// What is handed in, and what is told, is nobody's but the caller's.

func TestHandedIn(t *testing.T) {
	roomy := append(nums(3), txt("behind"))
	l := []api.Obj{{Tag: "P", Cells: roomy[:3]}, {Cells: roomy[1:2]}, obj("Behind", txt("behind"))}
	h := mustLoad(t, 30, l[:2]...)
	mustAlloc(t, h, "", roomy[:2]...)
	want := []api.Obj{obj("P", nums(3)...), obj("", num(1)), obj("", nums(2)...)}
	mustSet(t, h, ref(0), 2, txt("set"))
	mustSet(t, h, ref(2), 1, txt("set"))
	want[0].Cells[2], want[2].Cells[1] = txt("set"), txt("set")
	if !reflect.DeepEqual(roomy, append(nums(3), txt("behind"))) || !reflect.DeepEqual(l[2], obj("Behind", txt("behind"))) || l[0].Tag != "P" {
		t.Errorf("what was handed in is another: %v, %v", roomy, l)
	}
	for i := range roomy {
		roomy[i] = txt("changed")
	}
	l[0], l[1] = obj("Changed"), obj("Changed")
	expectObjects(t, "what was handed in is changed", h, 30, want...)
}

func TestToldIsChanged(t *testing.T) {
	h, l := someHeap(t)
	all, again := h.All(), h.All()
	for n := range all {
		for i := range all[n].Cells {
			all[n].Cells[i] = txt("changed")
		}
		_ = append(all[n].Cells, txt("behind"), txt("behind"))
		all[n].Tag = "Changed"
	}
	expectObjects(t, "All is changed", h, 20, l...)
	expect(t, "another All", told(model{l: again}), told(model{l: l}))
	mustSet(t, h, ref(0), 0, txt("set"))
	mustAlloc(t, h, "", nums(2)...)
	expect(t, "an All of a heap that is set", told(model{l: again}), told(model{l: l}))
}

// tellTexts are the texts that a heap of a record P, one cell of which is a text, tells.
func tellTexts(h *Heap) []string {
	tag, _ := h.Tag(ref(0))
	cell, _ := h.Get(ref(0), 0)
	all := h.All()
	return []string{tag, cell.S, all[0].Tag, all[0].Cells[0].S}
}

func TestTextsAreNotKept(t *testing.T) {
	b := []byte("PaPbcde")
	piece := func(from, to int) string { return unsafe.String(&b[from], to-from) }
	loaded := mustLoad(t, 9, obj(piece(2, 3), txt(piece(3, 5))))
	made := New(9)
	mustAlloc(t, made, piece(2, 3), txt(piece(3, 5)))
	set := mustLoad(t, 9, obj("P", num(1)))
	mustSet(t, set, ref(0), 0, txt(piece(3, 5)))
	copied := made.Copy()
	for i := range b {
		b[i] = 'Z'
	}
	for what, h := range map[string]*Heap{"loaded": loaded, "made": made, "set": set, "copied": copied} {
		expectObjects(t, what+" of a text that is changed", h, 9, obj("P", txt("bc")))
	}
}

func TestTextsAreToldAnew(t *testing.T) {
	h := mustLoad(t, 9, obj("P", txt("text")))
	seen := map[*byte]bool{}
	for _, s := range append(append(tellTexts(h), tellTexts(h)...), tellTexts(h.Copy())...) {
		at := unsafe.StringData(s)
		if seen[at] {
			t.Errorf("%q shares its bytes with another", s)
		}
		seen[at] = true
	}
}
