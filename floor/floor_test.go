package floor

import (
	"reflect"
	"slices"
	"testing"

	"hindcast/api"
)

// The calls have the chapter's signatures.
func TestFace(t *testing.T) {
	expect(t, "Check", reflect.TypeOf(Check), reflect.TypeFor[func(api.Floor) api.Errno]())
	expect(t, "Request", reflect.TypeOf(Request), reflect.TypeFor[func(api.Floor, int) (api.Floor, api.Errno)]())
	expect(t, "Grant", reflect.TypeOf(Grant), reflect.TypeFor[func(api.Floor, int) (api.Floor, api.Errno)]())
	expect(t, "Revoke", reflect.TypeOf(Revoke), reflect.TypeFor[func(api.Floor) (api.Floor, api.Errno)]())
	expect(t, "Release", reflect.TypeOf(Release), reflect.TypeFor[func(api.Floor, int) (api.Floor, api.Errno)]())
	expect(t, "Leave", reflect.TypeOf(Leave), reflect.TypeFor[func(api.Floor, int) (api.Floor, api.Errno)]())
}

// The chapter's example.
func TestExample(t *testing.T) {
	expectFloor(t, fl(0), "request", 3, fl(0, 3))
	expectFloor(t, fl(0, 3), "request", 5, fl(0, 3, 5))
	expectFloor(t, fl(0, 3, 5), "grant", 5, fl(5, 3))
	expectErr(t, fl(5, 3), "grant", 5, api.ErrNone)
	expectErr(t, fl(5, 3), "request", 5, api.ErrExists)
	expectErr(t, fl(5, 3), "release", 3, api.ErrFloor)
	expectFloor(t, fl(5, 3), "leave", 5, fl(0, 3))
	expectErr(t, fl(0, 3), "revoke", 0, api.ErrNone)
}

// P18.1: a holder is a client's number, or 0.
func TestHolder(t *testing.T) {
	for _, c := range []int{0, 1, 2, 7, 1 << 16, api.MaxId - 1, api.MaxId} {
		expectRight(t, fl(c))
		expectRight(t, fl(c, 3, 5))
	}
	for _, c := range none[1:] {
		expectWrong(t, fl(c))
		expectWrong(t, fl(c, 3, 5))
	}
}

// P18.1: nobody waits, or one, up to MaxQueue; one more is too many.
func TestHowManyWait(t *testing.T) {
	l := []int{11, 3, api.MaxId, 1, 8, 9}
	for _, holder := range []int{0, 7} {
		for n := range 5 {
			expectRight(t, fl(holder, l[:n]...))
		}
		expectWrong(t, fl(holder, l[:5]...))
		expectWrong(t, fl(holder, l...))
		many := make([]int, 1000)
		for i := range many {
			many[i] = 100 + i
		}
		expectWrong(t, fl(holder, many...))
	}
	expectRight(t, api.Floor{Queue: []int{}})
	expectRight(t, api.Floor{Queue: nil})
}

// P18.1: who waits is a client's number; 0 is none there.
func TestWhoWaits(t *testing.T) {
	for at := range 4 {
		for _, c := range []int{1, api.MaxId} {
			l := []int{4, 5, 6, 7}
			l[at] = c
			expectRight(t, fl(0, l...))
			expectRight(t, fl(9, l[:at+1]...))
		}
		for _, c := range none {
			l := []int{4, 5, 6, 7}
			l[at] = c
			expectWrong(t, fl(0, l...))
			expectWrong(t, fl(9, l[:at+1]...))
		}
	}
}

// P18.1: nobody waits twice, wherever, and nobody waits who holds.
func TestNobodyTwice(t *testing.T) {
	for at := range 4 {
		for before := range at {
			l := []int{4, 5, 6, 7}
			l[at] = l[before]
			expectWrong(t, fl(0, l...))
			expectWrong(t, fl(0, l[:at+1]...))
			expectWrong(t, fl(9, l...))
		}
		l := []int{4, 5, 6, 7}
		expectWrong(t, fl(l[at], l...))
		expectWrong(t, fl(l[at], l[:at+1]...))
	}
}

// P18.2: who asks waits as the last one, whether somebody holds or not.
func TestRequest(t *testing.T) {
	l := []int{4, api.MaxId, 1, 7}
	for _, holder := range []int{0, 9} {
		for n := range 4 {
			expectFloor(t, fl(holder, l[:n]...), "request", l[n], fl(holder, l[:n+1]...))
			expectFloor(t, fl(holder, l[:n]...), "request", 5, fl(holder, append(slices.Clone(l[:n]), 5)...))
		}
		expectErr(t, fl(holder, l...), "request", 5, api.ErrFull)
	}
}

// P18.2: who holds, or waits, is told so, also where MaxQueue wait.
func TestRequestOfOneWhoIsThere(t *testing.T) {
	l := []int{4, 5, 6, 7}
	for n := range 5 {
		for _, c := range l[:n] {
			expectErr(t, fl(0, l[:n]...), "request", c, api.ErrExists)
			expectErr(t, fl(9, l[:n]...), "request", c, api.ErrExists)
		}
		expectErr(t, fl(9, l[:n]...), "request", 9, api.ErrExists)
	}
}

// P18.3: whoever waits may be given the floor, wherever it stands, and whoever holds it.
func TestGrant(t *testing.T) {
	l := []int{4, 5, 6, 7}
	for _, holder := range []int{0, 9, 1, api.MaxId} {
		for n := 1; n < 5; n++ {
			for at, c := range l[:n] {
				rest := append(slices.Clone(l[:at]), l[at+1:n]...)
				expectFloor(t, fl(holder, l[:n]...), "grant", c, fl(c, rest...))
			}
		}
	}
}

// P18.3: who does not wait is given nothing, the holder neither.
func TestGrantOfOneWhoDoesNotWait(t *testing.T) {
	for _, queue := range [][]int{nil, {4}, {4, 5, 6, 7}} {
		expectErr(t, fl(0, queue...), "grant", 8, api.ErrNone)
		expectErr(t, fl(9, queue...), "grant", 8, api.ErrNone)
		expectErr(t, fl(9, queue...), "grant", 9, api.ErrNone)
	}
}

// P18.4: the floor is taken from whoever holds it, and is nobody's then, though some wait.
func TestRevoke(t *testing.T) {
	for _, queue := range [][]int{nil, {4}, {7, 4, 5, 6}} {
		for _, holder := range []int{1, 9, api.MaxId} {
			expectFloor(t, fl(holder, queue...), "revoke", 0, fl(0, queue...))
		}
		expectErr(t, fl(0, queue...), "revoke", 0, api.ErrNone)
	}
}

// P18.4: the holder alone gives the floor back.
func TestRelease(t *testing.T) {
	for _, queue := range [][]int{nil, {4}, {7, 4, 5, 6}} {
		for _, holder := range []int{1, 9, api.MaxId} {
			expectFloor(t, fl(holder, queue...), "release", holder, fl(0, queue...))
			for _, c := range append([]int{2, 8}, queue...) {
				expectErr(t, fl(holder, queue...), "release", c, api.ErrFloor)
			}
		}
		for _, c := range append([]int{2, 8}, queue...) {
			expectErr(t, fl(0, queue...), "release", c, api.ErrFloor)
		}
	}
}

// P18.4: who leaves neither holds nor waits then; of one who does neither, all stays.
func TestLeave(t *testing.T) {
	l := []int{4, 5, 6, 7}
	for _, holder := range []int{0, 9, 1, api.MaxId} {
		for n := range 5 {
			for at, c := range l[:n] {
				rest := append(slices.Clone(l[:at]), l[at+1:n]...)
				expectFloor(t, fl(holder, l[:n]...), "leave", c, fl(holder, rest...))
			}
			expectFloor(t, fl(holder, l[:n]...), "leave", 8, fl(holder, l[:n]...))
			if holder > 0 {
				expectFloor(t, fl(holder, l[:n]...), "leave", holder, fl(0, l[:n]...))
			}
		}
	}
}

// What is no client's number may not ask, whatever else would hold; but a floor that is not right comes first.
func TestNoClient(t *testing.T) {
	for _, c := range none {
		for _, f := range []api.Floor{fl(0), fl(9), fl(0, 4), fl(9, 4), fl(0, 4, 5, 6, 7), fl(9, 4, 5, 6, 7)} {
			for _, name := range []string{"request", "grant", "release", "leave"} {
				expectErr(t, f, name, c, api.ErrArg)
			}
		}
		for _, f := range []api.Floor{fl(-1), fl(2, 2), fl(0, 1, 1), fl(0, 0), fl(0, 1, 2, 3, 4, 5)} {
			for _, a := range asks(c) {
				expectErr(t, f, a.name, a.c, api.ErrFormat)
			}
		}
	}
}

// The least client and the greatest one may ask for all.
func TestClientsAtTheEdge(t *testing.T) {
	for _, c := range []int{1, api.MaxId} {
		expectFloor(t, fl(0), "request", c, fl(0, c))
		expectFloor(t, fl(0, c), "grant", c, fl(c))
		expectFloor(t, fl(c), "release", c, fl(0))
		expectFloor(t, fl(c), "leave", c, fl(0))
		expectFloor(t, fl(0, c), "leave", c, fl(0))
	}
}
