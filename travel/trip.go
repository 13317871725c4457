package travel

import (
	"iter"

	"hindcast/api"
	"hindcast/snap"
	"hindcast/store"
	"hindcast/vm"
)

// trip is the machine that goes through a run, and what it needs to go back.
type trip struct {
	*vm.Machine
	code     api.Code // with the next two: what a state needs to be a machine again
	input    []int
	limits   api.Limits
	every    int
	kept     *store.Store
	at       int
	furthest int // the greatest position that was come to
	steps    int
	ended    bool // furthest is the last position
}

// seek goes to a position, or to the end that is nearer to it.
func (t *trip) seek(pos int) int {
	pos = max(pos, 0)
	if pos < t.at {
		t.back(pos)
	}
	t.forth(pos)
	return t.at
}

// back goes to the greatest position that is kept and not above one. Nothing is refused here: the position 0 is always kept, and what is kept are states of this run.
func (t *trip) back(pos int) {
	at, b, _ := t.kept.Floor(pos)
	s, _ := snap.Load(b)
	t.Machine, _ = vm.Load(t.code, t.input, t.limits, s)
	t.at = at
}

func (t *trip) forth(pos int) {
	for at := range t.onward(pos) {
		if at <= t.furthest {
			continue // what went from the store is not kept again
		}
		t.furthest = at
		if at%t.every == 0 {
			t.keep()
		}
	}
	// It is asked where the run halts alone: a position that it went through is not the last.
	t.ended = t.ended || t.Look().Status != api.Running
}

// onward goes on up to a position, or to the end, and hands on each position that it comes to.
func (t *trip) onward(pos int) iter.Seq[int] {
	return func(yield func(at int) bool) {
		for t.at < pos && t.Step() {
			t.at++
			t.steps++
			if !yield(t.at) {
				return
			}
		}
	}
}

// keep keeps the state where the run stands. A machine's state may always be told.
func (t *trip) keep() {
	b, _ := snap.Bytes(t.State())
	t.kept.Put(t.at, b)
}
