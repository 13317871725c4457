package snap

import (
	"fmt"
	"math"
	"slices"
	"strings"
	"testing"

	"hindcast/api"
)

// P10.3, P10.5: bytes that are cut off anywhere, and bytes that are left.
func TestCutOff(t *testing.T) {
	expectNoLoad(t, "no bytes", nil, api.ErrShort)
	expectNoLoad(t, "empty bytes", []byte{}, api.ErrShort)
	for what, s := range map[string]api.State{"zero": {}, "full": full(), "long": changed(full(), func(s *api.State) {
		s.Out = strings.Repeat("\x00", 200)
		s.Heap[1].Cells = vals(txt(strings.Repeat("\n", 200)))
	})} {
		b, err := Bytes(s)
		expect(t, what, err, api.OK)
		for n := range b {
			expectNoLoad(t, fmt.Sprintf("%s: cut off at %d", what, n), b[:n], api.ErrShort)
		}
		for n := range 256 {
			expectNoLoad(t, fmt.Sprintf("%s: with the byte %d more", what, n), append(slices.Clone(b), byte(n)), api.ErrBig)
		}
		expectNoLoad(t, what+": twice", slices.Concat(b, b), api.ErrBig)
		expectLoad(t, what+": a byte ahead", slices.Concat([]byte{0}, b))
	}
}

// P10.3: what may not be told is the last error of all.
func TestErrorsInOrder(t *testing.T) {
	for what, do := range map[string]func(s *api.State){
		"the first":                         func(s *api.State) { s.Pos = -1 },
		"a status":                          func(s *api.State) { s.Status = 3 },
		"a fault":                           func(s *api.State) { s.Fault = 11 },
		"Read":                              func(s *api.State) { s.Read = -1 },
		"a call":                            func(s *api.State) { s.Calls[0].Mark = -2 },
		"a kind":                            func(s *api.State) { s.Calls[0].Slots[0].Kind = 5 },
		"a text":                            func(s *api.State) { s.Calls[0].Slots[0] = txt("\x00") },
		"a truth":                           func(s *api.State) { s.Calls[0].Stack[0] = truth(2) },
		"a reference":                       func(s *api.State) { s.Calls[0].Stack[0] = ref(3) },
		"a tag":                             func(s *api.State) { s.Heap[0].Tag = "1" },
		"a cell":                            func(s *api.State) { s.Heap[0].Cells[0] = none },
		"too many calls":                    func(s *api.State) { s.Calls = make([]api.Called, 65) },
		"too many slots":                    func(s *api.State) { s.Calls[2].Slots = make([]api.Val, 33) },
		"too much on a stack":               func(s *api.State) { s.Calls[2].Stack = make([]api.Val, 257) },
		"too many objects":                  func(s *api.State) { s.Heap = append(s.Heap, make([]api.Obj, 4096)...) },
		"a tag of as many bytes as is read": func(s *api.State) { s.Heap[0].Tag = strings.Repeat("a", 255) },
	} {
		b := bytesOf(pieces(changed(full(), do)))
		expectNoLoad(t, what, b, api.ErrArg)
		expectNoLoad(t, what+", with a byte more", append(slices.Clone(b), 0), api.ErrBig)
		expectNoLoad(t, what+", with bytes more that are no number", append(slices.Clone(b), 0x80, 0), api.ErrBig)
		expectNoLoad(t, what+", cut off", b[:len(b)-1], api.ErrShort)
		broken := append(slices.Clone(b[:len(b)-1]), 0x80, 0)
		expectNoLoad(t, what+", with a last number that is too long", broken, api.ErrFormat)
	}
}

// wrongs tells bytes that may not stand where a piece does, and what is wrong with them.
func wrongs(p piece) map[string]api.Errno {
	long := numberBytes(p.n)
	if p.isText() {
		long = numberBytes(len(p.s))
	}
	long[len(long)-1] |= 128
	l := map[string]api.Errno{
		string(long) + "\x00" + p.s:                 api.ErrFormat, // a number that is written longer than it needs to be
		string(long) + "\x80\x00" + p.s:             api.ErrFormat,
		strings.Repeat("\xff", 9) + "\x02":          api.ErrFormat,
		strings.Repeat("\xff", 9) + "\x00":          api.ErrFormat,
		strings.Repeat("\xff", 10) + "\x01":         api.ErrFormat,
		strings.Repeat("\x80", 10) + "\x80\x80\x01": api.ErrFormat,
	}
	number := func(n int) string { return string(numberBytes(n)) }
	most := 1 << 20
	switch p.what {
	case "text":
		most = 255
	case "output":
		most = 4096
	case "number", "kind":
		return l
	}
	for _, n := range []int{most + 1, most + 2, 2 * most, 1 << 40, math.MaxInt} {
		l[number(n)+strings.Repeat("a", min(n, 5000))] = api.ErrBig
	}
	l[number(-1)+p.s], l[number(math.MinInt)+p.s] = api.ErrFormat, api.ErrFormat
	return l
}

// P10.3: wrong bytes at each place: wire's error is the answer, whatever stands behind, and whatever may not be told ahead of it.
func TestWrongPieces(t *testing.T) {
	unright := changed(full(), func(s *api.State) {
		s.Pos, s.Status, s.Calls[0].Mark, s.Calls[0].Slots[0].Kind, s.Heap[0].Tag = -1, -1, -2, 9, "1"
	})
	for _, s := range []api.State{full(), unright} {
		l := pieces(s)
		for n, p := range l {
			ahead, behind := bytesOf(l[:n]), bytesOf(l[n+1:])
			for x, err := range wrongs(p) {
				what := fmt.Sprintf("the piece %d, a %s, is %.40x", n, p.what, x)
				expectNoLoad(t, what, slices.Concat(ahead, []byte(x), behind), err)
				expectNoLoad(t, what+", with bytes left", slices.Concat(ahead, []byte(x), behind, []byte("abc")), err)
				expectNoLoad(t, what+", at the end", slices.Concat(ahead, []byte(x)), err)
			}
		}
	}
}

// P10.3: other counts than there are things; one that is as great as it may be is held against the bytes only then.
func TestOtherCounts(t *testing.T) {
	l := pieces(full())
	for n, p := range l {
		if p.what != "count" {
			continue
		}
		what := fmt.Sprintf("the piece %d, a count", n)
		most := slices.Concat(bytesOf(l[:n]), numberBytes(1<<20))
		expectNoLoad(t, what+" of the most", most, api.ErrShort)
		expectLoad(t, what+" of the most, and what there was", slices.Concat(most, bytesOf(l[n+1:])))
		for by := -p.n; by < 4; by++ {
			b := slices.Concat(bytesOf(l[:n]), numberBytes(p.n+by), bytesOf(l[n+1:]))
			expectLoad(t, fmt.Sprintf("%s of %d, not %d", what, p.n+by, p.n), b)
		}
	}
}

// P10.3: as many things as a count may be, and one more, of all that is counted.
func TestCounts(t *testing.T) {
	const start, noCalls = "\x00\x00\x00\x00\x00", "\x00"
	for what, x := range map[string]struct{ ahead, one, behind string }{
		"calls":   {start, "\x00\x00\x00\x00\x00", "\x00"},
		"slots":   {start + "\x02\x00\x00\x00", "\x00", "\x00\x00"},
		"stack":   {start + "\x02\x00\x00\x00\x00", "\x02\x02", "\x00"},
		"objects": {start + noCalls, "\x00\x00", ""},
		"cells":   {start + noCalls + "\x02\x00", "\x04\x02", ""},
	} {
		few := x.ahead + "\x04" + x.one + x.one + x.behind
		if err := expectLoad(t, what+": two", []byte(few)); err != api.OK {
			t.Fatalf("%s: the test is wrong", what)
		}
		for n, err := range map[int]api.Errno{1 << 20: api.ErrArg, 1<<20 + 1: api.ErrBig} {
			s := x.ahead + string(numberBytes(n)) + strings.Repeat(x.one, n) + x.behind
			expectNoLoad(t, fmt.Sprintf("%s: %d", what, n), []byte(s), err)
			if err == api.ErrArg {
				expectNoLoad(t, fmt.Sprintf("%s: %d, cut off", what, n), []byte(s[:len(s)-1]), api.ErrShort)
				expectNoLoad(t, fmt.Sprintf("%s: %d, and a byte more", what, n), []byte(s+"\x00"), api.ErrBig)
			}
		}
	}
}

// P10.3: Out, tags and texts of as many bytes as are read, and of one more.
func TestLongTexts(t *testing.T) {
	const start = "\x00\x00\x00\x00"
	for what, x := range map[string]struct {
		ahead, behind string
		most          int
		err           api.Errno // of as many as are read
	}{
		"Out":                {start, "\x00\x00", 4096, api.OK},
		"a tag":              {start + "\x00\x00\x02", "\x00", 255, api.ErrArg},
		"a text in a slot":   {start + "\x00\x02\x00\x00\x00\x02\x06", "\x00\x00", 255, api.OK},
		"a text on a stack":  {start + "\x00\x02\x00\x00\x00\x00\x02\x06", "\x00", 255, api.OK},
		"a text in a cell":   {start + "\x00\x00\x02\x00\x02\x06", "", 255, api.OK},
		"one behind another": {start + "\x00\x00\x02\x00\x04\x06\x02a\x06", "", 255, api.OK},
	} {
		bytesFor := func(n int) []byte {
			return []byte(x.ahead + string(numberBytes(n)) + strings.Repeat("a", n) + x.behind)
		}
		expect(t, what+": the most", expectLoad(t, what, bytesFor(x.most)), x.err)
		expect(t, what+": one less", expectLoad(t, what, bytesFor(x.most-1)), x.err)
		expectNoLoad(t, what+": one more", bytesFor(x.most+1), api.ErrBig)
		b := bytesFor(x.most + 1)
		expectNoLoad(t, what+": one more, cut off", b[:len(b)-10], api.ErrBig)
		b = bytesFor(x.most)
		expectNoLoad(t, what+": the most, cut off", b[:len(x.ahead)+x.most], api.ErrShort)
	}
}

// P10.3: of a value's kind that is none of the five: as if it had nothing behind it.
func TestNoKind(t *testing.T) {
	const start = "\x00\x00\x00\x00\x00"
	for _, kind := range []int{-1, 5, -2, 6, 7, 1<<32 + 3, 1<<8 + 1, math.MaxInt, math.MinInt} {
		k := string(numberBytes(kind))
		for what, x := range map[string]struct{ ahead, behind string }{
			"a slot":     {start + "\x02\x00\x00\x00\x02", "\x00\x00"},
			"a stack":    {start + "\x02\x00\x00\x00\x00\x02", "\x00"},
			"a cell":     {start + "\x00\x02\x00\x02", ""},
			"ahead of 7": {start + "\x00\x02\x00\x04", "\x02\x0e"},
		} {
			what = fmt.Sprintf("the kind %d: %s", kind, what)
			expectNoLoad(t, what, []byte(x.ahead+k+x.behind), api.ErrArg)
			expectNoLoad(t, what+", with a byte more", []byte(x.ahead+k+x.behind+"\x00"), api.ErrBig)
			expectNoLoad(t, what+", cut off", []byte((x.ahead + k + x.behind)[:len(x.ahead+k+x.behind)-1]), api.ErrShort)
			if err := expectLoad(t, what+": none in its place", []byte(x.ahead+"\x00"+x.behind)); err != api.OK && err != api.ErrArg {
				t.Errorf("%s: the test is wrong", what)
			}
		}
	}
}
