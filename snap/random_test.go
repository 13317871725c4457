package snap

import (
	"fmt"
	"math"
	"math/rand/v2"
	"slices"
	"strings"
	"testing"

	"hindcast/api"
)

// chance makes states, by a seed.
type chance struct{ *rand.Rand }

func newChance(seed int) chance { return chance{rand.New(rand.NewPCG(uint64(seed), 10))} }

func one[T any](c chance, l ...T) T { return l[c.IntN(len(l))] }

// some tells a list of things, mostly few, seldom as many as may be.
func some[T any](c chance, most int, make func() T) []T {
	n := c.IntN(4)
	if c.IntN(40) == 0 {
		n = one(c, most, most-1, c.IntN(most))
	}
	var l []T
	for range n {
		l = append(l, make())
	}
	return l
}

// number tells one from 0 on.
func (c chance) number() int {
	return one(c, 0, 1, c.IntN(8), c.IntN(300), c.Int()>>c.IntN(63), math.MaxInt)
}

func (c chance) text() string {
	b := make([]byte, one(c, 0, 1, c.IntN(4), c.IntN(4), 255>>c.IntN(9)))
	for i := range b {
		b[i] = one(c, '\n', '"', '\\', byte(32+c.IntN(95)))
	}
	return string(b)
}

// cell tells a value, among so many objects, that may be a cell.
func (c chance) cell(objects int) api.Val {
	l := vals(num(c.number()), num(-c.number()-1), truth(c.IntN(2)), txt(c.text()))
	if objects > 0 {
		l = append(l, ref(c.IntN(objects)), ref(objects-1))
	}
	return one(c, l...)
}

func (c chance) value(objects int) api.Val { return one(c, none, c.cell(objects), c.cell(objects)) }

// right tells a state that may be told.
func (c chance) right() api.State {
	s := api.State{Pos: c.number(), Status: api.Status(c.IntN(3)), Fault: api.Fault(c.IntN(11)), Read: c.number()}
	objects := one(c, 0, 1, c.IntN(5), c.IntN(100)>>c.IntN(7))
	for range objects {
		tag := one(c, "", "", "P", "a_9", strings.Repeat("x", 20))
		s.Heap = append(s.Heap, api.Obj{Tag: tag, Cells: some(c, 30, func() api.Val { return c.cell(objects) })})
	}
	s.Calls = some(c, 64, func() api.Called {
		value := func() api.Val { return c.value(objects) }
		return api.Called{Unit: c.number(), At: c.number(), Mark: c.number() - c.IntN(2), Slots: some(c, 32, value), Stack: some(c, 256, value)}
	})
	out := make([]byte, one(c, 0, 1, c.IntN(9), c.IntN(4097)>>c.IntN(12)))
	for i := range out {
		out[i] = byte(c.IntN(256))
	}
	s.Out = string(out)
	return s
}

// anyNumber tells one near an edge, or far from all.
func (c chance) anyNumber() int {
	return one(c, -2, -1, 0, 1, 2, 3, 4, 5, 10, 11, c.IntN(1000)-500, int(c.Uint64()), math.MaxInt, math.MinInt)
}

func (c chance) anyText() string {
	return one(c, "", "a", "fn", "1", "\x00", "\xff", "~", "\x7f", strings.Repeat("a", 20), strings.Repeat("a", 21), strings.Repeat("a", 255), strings.Repeat("a", 256))
}

func (c chance) anyValue() api.Val {
	v := api.Val{Kind: api.ValKind(c.IntN(7) - 1)}
	if c.IntN(2) == 0 {
		v.N = c.anyNumber()
	}
	if c.IntN(3) == 0 {
		v.S = c.anyText()
	}
	return v
}

// change does something to a state by which it may become one that may not be told.
func (c chance) change(s *api.State) {
	values := []*[]api.Val{}
	for i := range s.Calls {
		values = append(values, &s.Calls[i].Slots, &s.Calls[i].Stack)
	}
	for i := range s.Heap {
		values = append(values, &s.Heap[i].Cells)
	}
	switch n := c.IntN(12); {
	case n == 0:
		s.Pos = c.anyNumber()
	case n == 1:
		s.Read = c.anyNumber()
	case n == 2:
		s.Status = api.Status(c.anyNumber())
	case n == 3:
		s.Fault = api.Fault(c.anyNumber())
	case n == 4:
		s.Heap = s.Heap[:len(s.Heap)/2]
	case n == 5 && len(s.Heap) > 0:
		s.Heap[c.IntN(len(s.Heap))].Tag = c.anyText()
	case n < 8 && len(s.Calls) > 0:
		x := &s.Calls[c.IntN(len(s.Calls))]
		*one(c, &x.Unit, &x.At, &x.Mark) = c.anyNumber()
	case len(values) > 0:
		l := one(c, values...)
		*l = slices.Insert(*l, c.IntN(len(*l)+1), c.anyValue())
	}
}

// P10.1 to P10.4: states by chance that may be told.
func TestRandomStates(t *testing.T) {
	for seed := range 4000 {
		expectState(t, fmt.Sprint("seed ", seed), newChance(seed).right(), true)
		if t.Failed() {
			break
		}
	}
}

// P10.1 to P10.4: states by chance of which many may not be told.
func TestRandomWrongs(t *testing.T) {
	told := map[bool]int{}
	for seed := range 12000 {
		c := newChance(seed)
		s := cloned(c.right())
		for range 1 + c.IntN(2) {
			c.change(&s)
		}
		is := mayBeToldByWords(s)
		expectState(t, fmt.Sprint("seed ", seed), s, is)
		told[is]++
		if t.Failed() {
			break
		}
	}
	if told[true] < 1000 || told[false] < 1000 {
		t.Errorf("not enough of both: %v", told)
	}
}

// P10.3, P10.4: bytes by chance, near to those of a state.
func TestRandomBytes(t *testing.T) {
	told := map[api.Errno]int{}
	for seed := range 20000 {
		c := newChance(seed)
		b := bytesOf(pieces(c.right()))
		for range 1 + c.IntN(2) {
			at := c.IntN(len(b))
			switch c.IntN(4) {
			case 0:
				b[at] = byte(c.IntN(256))
			case 1:
				b[at] ^= 1 << c.IntN(8)
			case 2:
				b = slices.Insert(b, at, byte(c.IntN(256)))
			case 3:
				b = append(slices.Delete(b, at, at+1), 0)
			}
		}
		told[expectLoad(t, fmt.Sprint("seed ", seed), b)]++
		if t.Failed() {
			break
		}
	}
	for _, err := range []api.Errno{api.OK, api.ErrShort, api.ErrFormat, api.ErrBig, api.ErrArg} {
		if told[err] < 100 {
			t.Errorf("the error %d was told %d times only", err, told[err])
		}
	}
}

// P10.3, P10.4: a few bytes of any kind, most of them small, which are often those of a state.
func TestAnyBytes(t *testing.T) {
	told := map[api.Errno]int{}
	for seed := range 300000 {
		c := newChance(seed)
		b := make([]byte, one(c, c.IntN(16), 7+c.IntN(6)))
		for i := range b {
			b[i] = byte(c.IntN(256) >> one(c, 0, 5, 6, 6, 7, 7, 8, 8, 8))
		}
		told[expectLoad(t, fmt.Sprint("seed ", seed), b)]++
		if t.Failed() {
			break
		}
	}
	for _, err := range []api.Errno{api.OK, api.ErrShort, api.ErrFormat, api.ErrBig, api.ErrArg} {
		if told[err] < 100 {
			t.Errorf("the error %d was told %d times only", err, told[err])
		}
	}
}

// P10.5: states by chance, cut off anywhere.
func TestRandomCutOff(t *testing.T) {
	for seed := range 300 {
		b := bytesOf(pieces(newChance(seed).right()))
		for n := range min(len(b), 400) {
			if _, err := Load(b[:n]); err != api.ErrShort {
				t.Fatalf("seed %d: cut off at %d: %d", seed, n, err)
			}
			if _, err := Load(b[:len(b)-1-n]); err != api.ErrShort {
				t.Fatalf("seed %d: %d cut off: %d", seed, n+1, err)
			}
		}
	}
}
