package travel

import (
	"fmt"
	"math"
	"math/rand/v2"
	"testing"
)

// chance tells things by chance, the same each time.
type chance struct{ *rand.Rand }

func newChance(seed int) chance { return chance{rand.New(rand.NewPCG(uint64(seed), 12))} }

func one[T any](c chance, l ...T) T { return l[c.IntN(len(l))] }

// place tells where a run is sent, that stands at a position: near, far, to what is kept and beside it, and beyond its ends.
func (c chance) place(m *model) int {
	kept := m.all()
	return one(c,
		c.IntN(m.last()+1), c.IntN(m.last()+1), c.IntN(m.last()+1),
		m.at+1, m.at-1, m.at, m.at+c.IntN(10), m.at-c.IntN(10),
		one(c, kept...)+one(c, -1, 0, 1),
		m.last()+one(c, -1, 0, 1, 2, 1000),
		one(c, -1, 0, 1, math.MinInt, math.MaxInt, 1<<32),
	)
}

// P12.2 to P12.7: runs that are sent to and fro by chance, held against the model, and against what P12.7 says by itself.
func TestByChance(t *testing.T) {
	all := programs()
	ways := make([]straight, len(all))
	for i, w := range all {
		ways[i] = through(w.work)
	}
	for seed := range 600 {
		c := newChance(seed)
		n := c.IntN(len(all))
		every := one(c, 1, 1, 2, 3, 4, 5, 8, 1+c.IntN(ways[n].last()+2), 1<<32)
		most := one(c, -1, 0, 1, 2, 3, 4, 5, 8, 1+c.IntN(64), 64, 65, 1000)
		p := newPair(t, all[n].work, ways[n], every, most)
		name := fmt.Sprintf("seed %d: %s", seed, p.what)
		for range 40 {
			p.what = fmt.Sprint(name, ": from ", p.m.at)
			if c.IntN(25) == 0 {
				p.last()
				continue
			}
			few(t, p, c.place(p.m))
		}
		p.last()
	}
}

// few sends a run to a position, and asks what P12.7 says: no more steps than it lies ahead of where the run stood, or of the one that is kept below it.
func few(t *testing.T, p *pair, pos int) {
	t.Helper()
	stood, ahead, kept := p.r.At(), p.r.Steps(), p.r.Kept()
	p.seek(pos)
	most := p.r.At() - stood
	if most < 0 {
		for _, k := range kept {
			if k <= p.r.At() {
				most = p.r.At() - k
			}
		}
	}
	if n := p.r.Steps() - ahead; n > most {
		t.Fatalf("%s: %d steps, not %d at most", p.what, n, most)
	}
}

// P12.2 to P12.6: all rows of three calls of a short run, Seek to each place and Last, with Seek beyond the end behind them, for few that are kept.
func TestAllRows(t *testing.T) {
	w := count(2) // up to 6
	s := through(w)
	const calls = 9 // Seek to -1 up to 6, and Last
	for every := 1; every <= 7; every++ {
		for most := 1; most <= 3; most++ {
			for row := range calls * calls * calls {
				p := newPair(t, w, s, every, most)
				for i, left := 0, row; i < 3; i, left = i+1, left/calls {
					if left%calls == calls-1 {
						p.last()
					} else {
						p.seek(left%calls - 1)
					}
				}
				p.seek(7)
			}
		}
	}
}

// P12.6: however a position is come to: from each other one, forth, back, and by way of the end.
func TestFromAnywhere(t *testing.T) {
	for _, w := range programs() {
		s := through(w.work)
		r := mustNew(t, w.work, 5, 6)
		step := 1 + s.last()/24
		for from := 0; from <= s.last(); from += step {
			for to := 0; to <= s.last(); to += step {
				r.Seek(from)
				what := fmt.Sprintf("%.200s: %d from %d", w.name, to, from)
				expect(t, what, r.Seek(to), to)
				expect(t, what+": Look", shown(r.Look()), s.looks[to])
				expect(t, what+": State", shown(r.State()), s.states[to])
				if t.Failed() {
					return
				}
			}
		}
	}
}
