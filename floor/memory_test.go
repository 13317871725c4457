package floor

import (
	"slices"
	"testing"

	"hindcast/api"
)

// floors are right ones, and some that are not.
func floors() []api.Floor {
	return []api.Floor{
		fl(0), fl(9), fl(0, 4), fl(9, 4), fl(0, 4, 5), fl(9, 4, 5), fl(4, 5, 6, 7), fl(0, 4, 5, 6, 7), fl(9, 7, 6, 5, 4),
		fl(-1, 4), fl(4, 4), fl(0, 4, 4), fl(0, 0), fl(0, 4, 5, 6, 7, 8),
	}
}

// withRoom tells a floor whose queue has room behind its end, and all that room with what stands in it.
func withRoom(f api.Floor, room int) (api.Floor, []int) {
	all := slices.Clone(f.Queue)
	for range room {
		all = append(all, 77)
	}
	f.Queue = all[:len(f.Queue)]
	return f, all
}

// Nothing that is handed in is changed, what stands behind the queue's end neither; and no answer shares memory with it.
func TestHandedInAndAnswered(t *testing.T) {
	for _, f := range floors() {
		for _, room := range []int{0, 1, 2, 3, 8} {
			for _, c := range []int{0, 4, 5, 6, 7, 9, 10} {
				for _, a := range asks(c) {
					in, all := withRoom(f, room)
					was := slices.Clone(all)
					Check(in)
					one, _ := a.call(in)
					two, _ := a.call(in)
					want := slices.Clone(two.Queue)
					expect(t, "the queue that was handed in, and its room", told(all), told(was))
					expect(t, "the floor that was handed in", told(in), told(fl(f.Holder, was[:len(f.Queue)]...)))
					spoil(one.Queue)
					expect(t, "what was handed in, once the answer was spoilt", told(all), told(was))
					expect(t, "the other answer", told(two.Queue), told(want))
					spoil(all)
					expect(t, "the other answer, once what was handed in was spoilt", told(two.Queue), told(want))
				}
			}
		}
	}
}

// spoil writes into a list, and into what room it has.
func spoil(l []int) {
	l = l[:cap(l)]
	for i := range l {
		l[i] = -5
	}
}

// The same is answered to the same, whatever was asked ahead of it.
func TestAgain(t *testing.T) {
	for _, f := range floors() {
		for _, c := range []int{0, 4, 5, 9, 10} {
			for _, a := range asks(c) {
				one, oneErr := a.call(f)
				for _, g := range floors() {
					for _, b := range asks(c) {
						b.call(g)
					}
				}
				two, twoErr := a.call(f)
				expect(t, a.name, told(two), told(one))
				expect(t, a.name+": the error", twoErr, oneErr)
			}
		}
	}
}

// nil and the empty queue are the same.
func TestNilQueue(t *testing.T) {
	for _, holder := range []int{0, 4, -1} {
		for _, c := range []int{0, 4, 5} {
			for _, a := range asks(c) {
				one, oneErr := a.call(api.Floor{Holder: holder})
				two, twoErr := a.call(api.Floor{Holder: holder, Queue: make([]int, 0, 4)})
				expect(t, a.name, told(two), told(one))
				expect(t, a.name+": the error", twoErr, oneErr)
			}
		}
	}
}
