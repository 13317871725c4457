package heap

import (
	"fmt"
	"math/rand/v2"
	"strings"
	"testing"

	"hindcast/api"
)

// chance tells things by chance, the same each time.
type chance struct{ *rand.Rand }

func newChance(seed int) chance { return chance{rand.New(rand.NewPCG(uint64(seed), 6))} }

// one tells one of a list.
func one[T any](c chance, l []T) T { return l[c.IntN(len(l))] }

func (c chance) text() string {
	var b strings.Builder
	for range one(c, []int{0, 1, 2, 5, 30, 80, 200}) {
		b.WriteByte(one(c, []byte("ab yz019\n\\\"~")))
	}
	return b.String()
}

// cell tells a value that may be a cell among n objects, but for one in so many.
func (c chance) cell(n, wrong int) api.Val {
	if c.IntN(wrong) == 0 {
		return one(c, append(wrongValues(), api.Val{}, ref(n), ref(n+1)))
	}
	switch k := c.IntN(6); {
	case k < 2 && n > 0:
		return ref(c.IntN(n))
	case k < 3:
		return truth(c.IntN(2))
	case k < 4:
		return txt(c.text())
	}
	return num(int(c.Uint64()) >> c.IntN(64))
}

func (c chance) cells(n, wrong int) []api.Val {
	var l []api.Val
	for range one(c, []int{0, 1, 2, 3, 4, 8, 9, 12}) {
		l = append(l, c.cell(n, wrong))
	}
	return l
}

func (c chance) tag(wrong int) string {
	if c.IntN(wrong) == 0 {
		return one(c, wrongTags())
	}
	return one(c, rightTags())
}

// reference tells mostly one to an object.
func (c chance) reference(n int) api.Val {
	if n > 0 && c.IntN(8) > 0 {
		return ref(c.IntN(n))
	}
	return one(c, notReferences(n))
}

func compare(t *testing.T, seed int, what string, got, want any) {
	t.Helper()
	if g, w := fmt.Sprint(got), fmt.Sprint(want); g != w {
		t.Fatalf("seed %d: %.300q: %.1000q, not %.1000q", seed, what, g, w)
	}
}

type pair struct {
	value any
	err   api.Errno
}

// move does one thing by chance to a heap and to the model of it, and holds what they answer against one another.
func move(t *testing.T, seed int, c chance, h *Heap, m *model) {
	t.Helper()
	n := len(m.l)
	switch v, i := c.reference(n), c.IntN(15)-2; c.IntN(8) {
	case 0, 1:
		tag, cells := c.tag(30), c.cells(n, 40)
		got, err := h.Alloc(tag, cells)
		want, e := m.Alloc(tag, cells)
		compare(t, seed, fmt.Sprintf("Alloc(%q, %v)", tag, cells), pair{got, err}, pair{want, e})
	case 2, 3, 4:
		x := c.cell(n, 15)
		compare(t, seed, fmt.Sprintf("Set(%v, %d, %v)", v, i, x), h.Set(v, i, x), m.Set(v, i, x))
	case 5:
		got, err := h.Get(v, i)
		want, e := m.Get(v, i)
		compare(t, seed, fmt.Sprintf("Get(%v, %d)", v, i), pair{got, err}, pair{want, e})
	case 6:
		got, err := h.Len(v)
		want, e := m.Len(v)
		compare(t, seed, fmt.Sprintf("Len(%v)", v), pair{got, err}, pair{want, e})
	case 7:
		x := c.cell(n, 4)
		compare(t, seed, fmt.Sprintf("Show(%v)", x), h.Show(x), m.Show(x))
		compare(t, seed, fmt.Sprintf("Show(%v)", v), h.Show(v), m.Show(v))
	}
	if h.Used() > m.most {
		t.Fatalf("seed %d: %d are used of %d", seed, h.Used(), m.most)
	}
}

// P6.2 to P6.8: whatever is done to a heap, it tells what the chapter's words say; so do its copies, and what is loaded of it.
func TestRandomRuns(t *testing.T) {
	for seed := range 300 {
		c := newChance(seed)
		m := &model{most: one(c, []int{0, 1, 5, 20, 60, 150})}
		h := New(m.most)
		for range 60 {
			was := told(h)
			other := h
			switch c.IntN(12) {
			case 0:
				h = other.Copy()
			case 1:
				h = mustLoad(t, m.most, other.All()...)
			}
			move(t, seed, c, h, m)
			compare(t, seed, "all that is told", told(h), told(m))
			if h != other {
				compare(t, seed, "what a copy was made of", told(other), was)
			}
		}
		compare(t, seed, "room", room(h), m.most-m.Used())
	}
}

// P6.4, P6.6: what Load takes, and what it refuses.
func TestRandomLoads(t *testing.T) {
	taken := 0
	for seed := range 3000 {
		c := newChance(seed)
		var l []api.Obj
		n := c.IntN(6)
		for range n {
			l = append(l, obj(c.tag(40), c.cells(n, 80)...))
		}
		m := &model{most: c.IntN(60), l: l}
		want := api.OK
		for _, o := range l {
			if !rightTag(o.Tag) || !rightCells(o.Cells, n) {
				want = api.ErrArg
			}
		}
		if want == api.OK && m.Used() > m.most {
			want = api.ErrFull
		}
		h, err := Load(m.most, l)
		compare(t, seed, fmt.Sprintf("Load(%d, %v)", m.most, l), err, want)
		if want == api.OK {
			taken++
			compare(t, seed, "what was loaded", told(h), told(m))
			compare(t, seed, "room", room(h), m.most-m.Used())
		}
	}
	if taken < 500 || taken > 2500 {
		t.Errorf("%d of 3000 were taken: what is tried is one-sided", taken)
	}
}

// P6.1: values of all kinds, with fields of all kinds.
func TestRandomValues(t *testing.T) {
	for seed := range 30000 {
		c := newChance(seed)
		n := c.IntN(8) - 2
		v := api.Val{Kind: api.ValKind(c.IntN(9) - 2), N: c.IntN(12) - 3}
		if c.IntN(2) == 0 {
			v.S = c.text()
		}
		if c.IntN(3) == 0 {
			v.N = 0
		}
		if c.IntN(9) == 0 {
			v.S += string([]byte{byte(c.IntN(256))})
		}
		want := api.ErrArg
		if right(v, n) {
			want = api.OK
		}
		compare(t, seed, fmt.Sprintf("Check(%v, %d)", v, n), Check(v, n), want)
	}
}
