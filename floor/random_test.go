package floor

import (
	"fmt"
	"math/rand/v2"
	"slices"
	"testing"

	"hindcast/api"
)

// chance tells things by chance, the same each time.
type chance struct{ *rand.Rand }

func newChance(n, seed int) chance { return chance{rand.New(rand.NewPCG(uint64(n), uint64(seed)))} }

func of[T any](c chance, l ...T) T { return l[c.IntN(len(l))] }

// client tells one of few, so that they meet again; now and then one at the edge, or none.
func (c chance) client() int {
	if c.IntN(8) > 0 {
		return 1 + c.IntN(9)
	}
	return of(c, append(slices.Clone(none), api.MaxId, api.MaxId, api.MaxId-1, 1+c.IntN(api.MaxId), int(c.Uint64()))...)
}

// floor tells one that is often right.
func (c chance) floor() api.Floor {
	f := api.Floor{Holder: of(c, 0, 0, c.client())}
	l := c.Perm(9)
	for i := range of(c, 0, 1, 2, 3, 4, 4, 5) {
		f.Queue = append(f.Queue, of(c, 1+l[i], 1+l[i], 1+l[i], 1+l[i], 1+l[i], c.client()))
	}
	return f
}

func (c chance) ask() ask { return of(c, asks(c.client())...) }

// expectModel says that a call answers what the model does, and tells that.
func expectModel(t *testing.T, f api.Floor, a ask) (api.Floor, api.Errno) {
	t.Helper()
	got, err := a.call(f)
	want, wantErr := modelAsk(f, a)
	if !same(got, want) || err != wantErr {
		t.Fatalf("%s %d of %s:\n got %s, error %d\nwant %s, error %d", a.name, a.c, told(f), told(got), err, told(want), wantErr)
	}
	return got, err
}

// expectTally says that each of these came up so often.
func expectTally(t *testing.T, seen map[string]int, least int, names ...string) {
	t.Helper()
	for _, s := range names {
		if seen[s] < least {
			t.Errorf("%s: but %d times: %v", s, seen[s], seen)
		}
	}
}

// outcomes are each call with each error that it has.
var outcomes = []string{
	"request 0", "request 2", "request 11", "request 12", "grant 0", "grant 2", "grant 10", "revoke 0", "revoke 10",
	"release 0", "release 2", "release 15", "leave 0", "leave 2",
}

// P18.1 to P18.4: of floors by chance, right and wrong, each call answers what the chapter's words say.
func TestFloorsByChance(t *testing.T) {
	seen := map[string]int{}
	for n := range 200000 {
		c := newChance(n, 1)
		f := c.floor()
		err := Check(f)
		if _, right := modelOf(f); right != (err == api.OK) || !right && err != api.ErrFormat {
			t.Fatalf("Check of %s: error %d", told(f), err)
		}
		a := c.ask()
		_, err = expectModel(t, f, a)
		seen[fmt.Sprint(a.name, " ", int(err))]++
	}
	expectTally(t, seen, 400, outcomes...)
	expectTally(t, seen, 400, "request 4", "grant 4", "revoke 4", "release 4", "leave 4")
}

// keepsOrder tells whether those of a queue who still wait stand as they stood.
func keepsOrder(was, now []int) bool {
	stay := slices.DeleteFunc(slices.Clone(was), func(c int) bool { return !slices.Contains(now, c) })
	return len(stay) <= len(now) && slices.Equal(stay, now[:len(stay)])
}

// P18.5, P18.6: from the floor without holder and queue on, whatever is asked: it is right, no other call changes its holder, and who wait keep their order.
func TestRowsByChance(t *testing.T) {
	seen := map[string]int{}
	for n := range 300 {
		c := newChance(n, 2)
		var f api.Floor
		for range 400 {
			a := c.ask()
			next, err := expectModel(t, f, a)
			seen[fmt.Sprint(a.name, " ", int(err))]++
			if err != api.OK {
				continue
			}
			expectRight(t, next)
			may := a.name == "grant" || a.name == "revoke" || a.name == "release" || a.name == "leave" && a.c == f.Holder
			if next.Holder != f.Holder && !may {
				t.Fatalf("%s %d of %s: the holder is %d", a.name, a.c, told(f), next.Holder)
			}
			if !keepsOrder(f.Queue, next.Queue) {
				t.Fatalf("%s %d of %s: they wait as %s", a.name, a.c, told(f), told(next))
			}
			f = next
		}
	}
	expectTally(t, seen, 200, outcomes...)
}

// queues tells all rows of at most n numbers from 0 to 4.
func queues(n int) [][]int {
	l := [][]int{nil}
	if n == 0 {
		return l
	}
	for _, q := range queues(n - 1) {
		for c := range 5 {
			l = append(l, append(slices.Clone(q), c))
		}
	}
	return l
}

// P18.1 to P18.4: of each floor with few clients, and each of these, each call answers what the chapter's words say.
func TestAllSmallFloors(t *testing.T) {
	for _, q := range queues(5) {
		for holder := -1; holder < 5; holder++ {
			for c := -1; c < 6; c++ {
				for _, a := range asks(c) {
					expectModel(t, fl(holder, q...), a)
				}
			}
		}
	}
}
