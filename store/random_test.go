package store

import (
	"fmt"
	"math"
	"math/rand/v2"
	"slices"
	"testing"

	"hindcast/api"
)

// chance tells things by chance, the same each time.
type chance struct{ *rand.Rand }

func newChance(seed int) chance { return chance{rand.New(rand.NewPCG(uint64(seed), 11))} }

func one[T any](c chance, l ...T) T { return l[c.IntN(len(l))] }

// way tells how positions come: in order, against it, and by chance, near one another and far.
func (c chance) way() func(i int) int {
	top, every := one(c, 3, 10, 100, 1000), 1+c.IntN(9)
	return one(c,
		func(i int) int { return i },
		func(i int) int { return every * i },
		func(i int) int { return math.MaxInt - 1000 + i },
		func(i int) int { return 2000 - every*i },
		func(i int) int { return math.MaxInt - every*i },
		func(i int) int { return i * i * every },
		func(int) int { return c.IntN(top) },
		func(int) int { return c.IntN(top) - top/8 },
		func(i int) int { return every*i + c.IntN(top) },
		func(int) int { return math.MaxInt - c.IntN(top) },
		func(int) int { return c.Int() >> c.IntN(63) },
		func(int) int { return int(c.Uint64()) },
		func(int) int {
			return one(c, 0, 1, -1, math.MaxInt, math.MaxInt-1, math.MaxInt/2, math.MinInt, 1<<31, 1<<32)
		},
	)
}

func (c chance) bytes() []byte {
	b := make([]byte, one(c, 0, 0, 1, 2, 5, 40))
	for i := range b {
		b[i] = byte(c.IntN(256))
	}
	return one(c, b, b, b, nil)
}

func (c chance) most() int { return one(c, -1, 0, 1, 2, 3, 4, 5, 8, 1+c.IntN(64), 63, 64, 65, 1000) }

// P11.1 to P11.4: stores by chance, held against the model, and against what the promises say by themselves.
func TestByChance(t *testing.T) {
	for seed := range 1500 {
		c := newChance(seed)
		most := c.most()
		s, m := New(most), newModel(most)
		last := map[int]string{} // what was put at a position last
		least := -1              // the least position that ever was there
		next := c.way()
		for i := range 150 {
			if c.IntN(40) == 0 {
				next = c.way()
			}
			pos, b := next(i), c.bytes()
			what := fmt.Sprintf("seed %d, the %d. Put, at %d, most %d", seed, i, pos, most)
			expect(t, what, s.Put(pos, b), m.put(pos, b))
			last[pos] = string(b)
			if i%8 == 0 || i > 140 {
				expectSame(t, what, s, m, pos, c.Int(), math.MinInt, math.MaxInt)
			}
			least = expectPromises(t, what, s, m.most, last, least)
			if t.Failed() {
				return
			}
		}
	}
}

// expectPromises asks what P11.3 and P11.4 say, and tells the least position that ever was there.
func expectPromises(t *testing.T, what string, s *Store, most int, last map[int]string, least int) int {
	t.Helper()
	all := s.All()
	if len(all) > most {
		t.Errorf("%s: %d positions, of at most %d", what, len(all), most)
	}
	for _, pos := range all {
		at, b, is := s.Floor(pos)
		if at != pos || string(b) != last[pos] || !is {
			t.Errorf("%s: Floor(%d): %d, %q, %v, not itself, %q", what, pos, at, b, is, last[pos])
		}
		if least < 0 || pos < least {
			least = pos
		}
	}
	if _, _, is := s.Floor(least); is != (least >= 0) {
		t.Errorf("%s: %v, that there is one not above %d", what, is, least)
	}
	return least
}

// P11.1, P11.2: all rows of few positions, for stores of which few may be.
func TestAllRows(t *testing.T) {
	places := []int{0, 1, 2, 4, 7, 9}
	for most := 1; most <= 5; most++ {
		for n := range 6 * 6 * 6 * 6 * 6 * 6 {
			s, m := New(most), newModel(most)
			var row []int
			for i, left := 0, n; i < 6; i, left = i+1, left/6 {
				pos := places[left%6]
				row = append(row, pos)
				s.Put(pos, []byte{byte(i)})
				m.put(pos, []byte{byte(i)})
			}
			if !slices.Equal(s.All(), m.all()) {
				t.Fatalf("New(%d), %v: %v, not %v", most, row, s.All(), m.all())
			}
			if n%7 == 0 {
				expectSame(t, fmt.Sprintf("New(%d), %v", most, row), s, m)
			}
		}
	}
}

// P11.1: where all may be, the order in which positions come does not matter.
func TestAnyOrder(t *testing.T) {
	c := newChance(1)
	want := told(fed(t, 64, c.sorted(64)...))
	for seed := range 50 {
		l := newChance(1).sorted(64)
		newChance(seed).Shuffle(len(l), func(i, j int) { l[i], l[j] = l[j], l[i] })
		expect(t, "told", told(fed(t, 64, l...)), want)
	}
}

// sorted tells so many positions, rising.
func (c chance) sorted(n int) []int {
	seen := newModel(0)
	for len(seen.at) < n {
		seen.at[c.Int()>>c.IntN(63)] = ""
	}
	return seen.all()
}

// P11.1: of positions far from one another and near, a refused one among them changes nothing.
func TestRefusedBetween(t *testing.T) {
	for seed := range 200 {
		c := newChance(seed)
		most := c.most()
		with, without := New(most), New(most)
		next := c.way()
		for i := range 60 {
			pos, b := next(i), c.bytes()
			expect(t, "below 0", with.Put(-1-c.IntN(5), c.bytes()), api.ErrArg)
			with.Put(pos, b)
			if pos >= 0 {
				mustPut(t, without, pos, b)
			}
		}
		expect(t, fmt.Sprintf("seed %d", seed), told(with), told(without))
	}
}
