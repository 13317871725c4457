package floor

import (
	"fmt"
	"slices"
	"testing"

	"hindcast/api"
)

const (
	least = -1 << 63
	most  = 1<<63 - 1
)

// none are numbers of no client.
var none = []int{0, -1, api.MaxId + 1, api.MaxId + 2, -api.MaxId, 1 << 32, 1<<32 + 1, 1<<32 + 3, -3, least, least + 1, most}

// fl tells a floor by its holder and those who wait.
func fl(holder int, queue ...int) api.Floor { return api.Floor{Holder: holder, Queue: queue} }

// told tells what is told as a text that is not too long to look at.
func told(x any) string { return fmt.Sprintf("%.300s", fmt.Sprintf("%+v", x)) }

func expect[T comparable](t *testing.T, what string, got, want T) {
	t.Helper()
	if got != want {
		t.Errorf("%.300s:\n got %s\nwant %s", what, told(got), told(want))
	}
}

func same(f, g api.Floor) bool {
	return f.Holder == g.Holder && slices.Equal(f.Queue, g.Queue)
}

// ask is a call on a floor, with a client or, of Revoke, with none.
type ask struct {
	name string
	c    int
}

// asks tells each of the five calls.
func asks(c int) []ask {
	return []ask{{"request", c}, {"grant", c}, {"revoke", c}, {"release", c}, {"leave", c}}
}

func (a ask) call(f api.Floor) (api.Floor, api.Errno) {
	switch a.name {
	case "request":
		return Request(f, a.c)
	case "grant":
		return Grant(f, a.c)
	case "revoke":
		return Revoke(f)
	case "release":
		return Release(f, a.c)
	}
	return Leave(f, a.c)
}

// expectFloor says what a call answers.
func expectFloor(t *testing.T, f api.Floor, name string, c int, want api.Floor) {
	t.Helper()
	if got, err := (ask{name, c}).call(f); !same(got, want) || err != api.OK {
		t.Errorf("%s %d of %s:\n got %s, error %d\nwant %s", name, c, told(f), told(got), err, told(want))
	}
}

// expectErr says that a call is refused.
func expectErr(t *testing.T, f api.Floor, name string, c int, want api.Errno) {
	t.Helper()
	got, err := (ask{name, c}).call(f)
	if got.Holder != 0 || len(got.Queue) > 0 || err != want {
		t.Errorf("%s %d of %s:\n got %s, error %d\nwant error %d", name, c, told(f), told(got), err, want)
	}
}

// expectWrong says that a floor is not right, whatever is asked of it.
func expectWrong(t *testing.T, f api.Floor) {
	t.Helper()
	if err := Check(f); err != api.ErrFormat {
		t.Errorf("Check of %s: error %d", told(f), err)
	}
	for _, c := range append([]int{1, 2, 3, 9, api.MaxId, f.Holder}, append(slices.Clone(none), f.Queue...)...) {
		for _, a := range asks(c) {
			expectErr(t, f, a.name, a.c, api.ErrFormat)
		}
	}
}

func expectRight(t *testing.T, f api.Floor) {
	t.Helper()
	if err := Check(f); err != api.OK {
		t.Errorf("Check of %s: error %d", told(f), err)
	}
}

// The model: who waits has a ticket, later ones greater tickets.

type model struct {
	holder  int
	tickets map[int]int // by clients
}

// modelOf tells a floor's model, and whether the floor is right.
func modelOf(f api.Floor) (model, bool) {
	m := model{f.Holder, map[int]int{}}
	right := uint64(f.Holder) < 1<<31
	for i, c := range f.Queue {
		m.tickets[c] = i
		right = right && uint64(c-1) < 1<<31-1
	}
	all := len(m.tickets)
	delete(m.tickets, f.Holder)
	return m, right && len(f.Queue) < 5 && all == len(f.Queue) && len(m.tickets) == all
}

func (m model) floor() api.Floor {
	f := api.Floor{Holder: m.holder}
	for c := range m.tickets {
		f.Queue = append(f.Queue, c)
	}
	slices.SortFunc(f.Queue, func(a, b int) int { return m.tickets[a] - m.tickets[b] })
	return f
}

// modelAsk tells what a call answers.
func modelAsk(f api.Floor, a ask) (api.Floor, api.Errno) {
	m, right := modelOf(f)
	_, waits := m.tickets[a.c]
	holds := m.holder == a.c
	noClient := a.name != "revoke" && uint64(a.c-1) >= 1<<31-1
	for _, no := range []struct {
		is  bool
		err api.Errno
	}{
		{!right, api.ErrFormat},
		{noClient, api.ErrArg},
		{a.name == "request" && (holds || waits), api.ErrExists},
		{a.name == "request" && len(m.tickets) == 4, api.ErrFull},
		{a.name == "grant" && !waits, api.ErrNone},
		{a.name == "revoke" && m.holder == 0, api.ErrNone},
		{a.name == "release" && !holds, api.ErrFloor},
	} {
		if no.is {
			return api.Floor{}, no.err
		}
	}
	if a.name != "revoke" {
		delete(m.tickets, a.c)
	}
	switch {
	case a.name == "request":
		m.tickets[a.c] = 99
	case a.name == "grant":
		m.holder = a.c
	case holds || a.name == "revoke":
		m.holder = 0
	}
	return m.floor(), api.OK
}
