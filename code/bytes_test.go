package code

import (
	"bytes"
	"fmt"
	"math"
	"reflect"
	"slices"
	"strings"
	"testing"
	"unsafe"

	"hindcast/api"
)

// full tells a code with something of everything.
func full() api.Code {
	return changed(some("mark 300; int -70; store 2; mark -1; bool 1; unless 8; str 1; print 1; return"), func(c *api.Code) {
		c.Strs = append(c.Strs, "", strings.Repeat("\"", 100))
		c.Units[0].Vars = []api.Var{{Name: "x", Slot: 2, From: 3, To: 9}, {Name: "x", Slot: 0}}
		c.Units[1].Vars = []api.Var{{Name: "a", Slot: 0, To: 3}, {Name: "b", Slot: 1, To: 3}}
	})
}

// biggest tells a code of which there may be no more of anything that has a limit.
func biggest() api.Code {
	c := api.Code{Strs: slices.Repeat([]string{strings.Repeat("~", 255)}, 1024), Main: 31}
	for _, s := range someNames(16) {
		c.Shapes = append(c.Shapes, api.Shape{Name: s, Fields: someNames(8)})
	}
	for n, s := range someNames(32) {
		u := api.Unit{Name: s, Params: 8, Slots: 32, Stack: 256, Result: true}
		for n := range 4094 {
			u.Ins = append(u.Ins, api.Ins{Op: api.OpMark, A: math.MinInt + n})
		}
		u.Ins = append(u.Ins, asm("str 1023; return 1")...)
		if n == 31 {
			u.Params, u.Result = 0, false
			u.Ins = append(u.Ins[:4095], asm("return")...)
			u.Ins[4094] = api.Ins{Op: api.OpMark}
		}
		c.Units = append(c.Units, u)
	}
	return c
}

// P7.3: the bytes of codes, written out.
func TestBytes(t *testing.T) {
	least := api.Code{Units: []api.Unit{{Name: "a", Ins: asm("return")}}}
	for _, c := range []struct {
		what, want string
		c          api.Code
	}{
		{"the least", "\x00" + "\x00" + "\x02" + "\x02a\x00\x00\x00\x00" + "\x02\x2e\x00" + "\x00" + "\x00", least},
		{
			"all there is",
			"\x04\x02a\x04b\n" + "\x04" + "\x02P\x02\x02x" + "\x02Q\x04\x02a\x02b" + "\x06" +
				"\x08main\x00\x06\x08\x00" + "\x08\x00\xd8\x04\x02\x8b\x01\x0a\x02\x2e\x00" + "\x00" +
				"\x06two\x04\x04\x04\x01" + "\x06\x00\x0e\x08\x00\x2e\x02" + "\x04" + "\x02y\x00\x00\x06" + "\x04ab\x02\x02\x04" +
				"\x06one\x02\x08\x00\x00" + "\x04\x00\x12\x2e\x00" + "\x00" +
				"\x00",
			changed(some("mark 300; int -70; store 1; return"), func(c *api.Code) {
				c.Units[1].Vars = []api.Var{{Name: "y", Slot: 0, From: 0, To: 3}, {Name: "ab", Slot: 1, From: 1, To: 2}}
			}),
		},
	} {
		expect(t, c.what+", by the chapter's words", fmt.Sprintf("%x", bytesOf(pieces(c.c))), fmt.Sprintf("%x", c.want))
		b, err := Bytes(c.c)
		expect(t, c.what, fmt.Sprintf("%x", b), fmt.Sprintf("%x", c.want))
		expect(t, c.what+": the error", err, api.OK)
		back, err := Load([]byte(c.want))
		expect(t, c.what+": Load's error", err, api.OK)
		if !same(back, c.c) {
			t.Errorf("%s: %v, not %v", c.what, back, c.c)
		}
	}
}

// P7.3, P7.5: codes with something of everything, and with the most of it.
func TestThereAndBack(t *testing.T) {
	expectRight(t, "a full code", full())
	expectRight(t, "the biggest code", biggest())
	for _, n := range needs {
		expectRight(t, n.ins, around(n.ins, n.takes, n.puts, 256))
	}
	for _, n := range []int{0, 1, -1, 63, 64, -64, -65, 1 << 40, math.MaxInt, math.MinInt} {
		expectRight(t, fmt.Sprint("the number ", n), some(fmt.Sprintf("mark %d; int %d; pop; return", n, n)))
	}
}

// P7.3: bytes that are cut off anywhere, and bytes that are left.
func TestLoadCutOff(t *testing.T) {
	expectNoLoad(t, "no bytes", nil, api.ErrShort)
	expectNoLoad(t, "empty bytes", []byte{}, api.ErrShort)
	b, _ := Bytes(full())
	for n := range b {
		expectNoLoad(t, fmt.Sprintf("cut off at %d", n), b[:n], api.ErrShort)
	}
	for n := range 256 {
		expectNoLoad(t, fmt.Sprintf("with the byte %d more", n), append(slices.Clone(b), byte(n)), api.ErrBig)
	}
	expectNoLoad(t, "twice", slices.Concat(b, b), api.ErrBig)
	expectNoLoad(t, "a byte ahead", slices.Concat([]byte{0}, b), loadError(slices.Concat([]byte{0}, b)))
	wrong := bytesOf(pieces(changed(full(), func(c *api.Code) { c.Main = 1 })))
	expectNoLoad(t, "a wrong code", wrong, api.ErrArg)
	expectNoLoad(t, "a wrong code with a byte more", append(wrong, 0), api.ErrBig)
	expectNoLoad(t, "a wrong code that is cut off", wrong[:len(wrong)-1], api.ErrShort)
}

// wrongs tells bytes that may not stand where a piece does, and what is wrong with them.
func wrongs(p piece) map[string]api.Errno {
	long := p.bytes()
	if p.kind == "text" {
		long = piece{"count", len(p.s), ""}.bytes()
	}
	long[len(long)-1] |= 128
	l := map[string]api.Errno{
		string(long) + "\x00" + p.s:                 api.ErrFormat, // a number that is written longer than it needs to be
		strings.Repeat("\xff", 9) + "\x02":          api.ErrFormat,
		strings.Repeat("\xff", 10) + "\x01":         api.ErrFormat,
		strings.Repeat("\x80", 10) + "\x80\x80\x01": api.ErrFormat,
	}
	number := func(n int) string { return string(piece{"number", n, ""}.bytes()) }
	switch p.kind {
	case "truth":
		return map[string]api.Errno{"\x02": api.ErrFormat, "\x03": api.ErrFormat, "\x80": api.ErrFormat, "\x81\x00": api.ErrFormat, "\xff": api.ErrFormat}
	case "count":
		for _, n := range []int{1<<20 + 1, 1 << 21, 1 << 40, math.MaxInt} {
			l[number(n)] = api.ErrBig
		}
		l[number(-1)], l[number(math.MinInt)] = api.ErrFormat, api.ErrFormat
	case "text":
		for _, n := range []int{256, 257, 1 << 20, 1 << 40, math.MaxInt} {
			l[number(n)+strings.Repeat("a", min(n, 300))] = api.ErrBig
		}
		l[number(-1)+p.s], l[number(math.MinInt)+p.s] = api.ErrFormat, api.ErrFormat
	}
	return l
}

// P7.3: wrong bytes at each place: wire's error is the answer, whatever stands behind, and whatever is not right ahead of it.
func TestLoadWrongPieces(t *testing.T) {
	unright := changed(full(), func(c *api.Code) {
		c.Strs[0], c.Shapes[0].Name, c.Units[0].Name, c.Units[0].Ins[0].Op = "\x00", "1", "fn", -9
	})
	for _, c := range []api.Code{full(), unright} {
		l := pieces(c)
		for n, p := range l {
			ahead, behind := bytesOf(l[:n]), bytesOf(l[n+1:])
			for s, err := range wrongs(p) {
				what := fmt.Sprintf("the piece %d, a %s", n, p.kind)
				expectNoLoad(t, what, slices.Concat(ahead, []byte(s), behind), err)
				expectNoLoad(t, what+", with bytes left", slices.Concat(ahead, []byte(s), behind, []byte("abc")), err)
				if err == api.ErrBig {
					expectNoLoad(t, what+", at the end", slices.Concat(ahead, []byte(s)), err)
				}
			}
		}
	}
}

// P7.3: a count is at most MaxFrame, of anything that is counted, and is only then held against the bytes that there are.
func TestLoadCounts(t *testing.T) {
	l := pieces(full())
	for n, p := range l {
		if p.kind != "count" {
			continue
		}
		most := slices.Concat(bytesOf(l[:n]), piece{"count", 1 << 20, ""}.bytes())
		expectNoLoad(t, fmt.Sprintf("the piece %d, a count of the most", n), most, api.ErrShort)
		behind := slices.Concat(most, bytesOf(l[n+1:]))
		expectNoLoad(t, fmt.Sprintf("the piece %d, a count of the most, and what there was", n), behind, loadError(behind))
		for _, by := range []int{-p.n, -1, 1, 2} {
			if by == 0 || p.n+by < 0 {
				continue
			}
			b := slices.Concat(bytesOf(l[:n]), piece{"count", p.n + by, ""}.bytes(), bytesOf(l[n+1:]))
			expectNoLoad(t, fmt.Sprintf("the piece %d, a count of %d, not %d", n, p.n+by, p.n), b, loadError(b))
		}
	}
}

// P7.3: more than a code may have, and less than a count may be, is read, and the code is not right.
func TestLoadNotRight(t *testing.T) {
	for what, c := range map[string]api.Code{
		"too many texts":            changed(some("return"), func(c *api.Code) { c.Strs = make([]string, 1025) }),
		"too many shapes":           changed(some("return"), func(c *api.Code) { c.Shapes = shapes(someNames(17)...) }),
		"too many fields":           changed(some("return"), func(c *api.Code) { c.Shapes[0].Fields = someNames(9) }),
		"too many units":            {Units: units(someNames(33)...)},
		"no units":                  {},
		"too many instructions":     some(times(4096, "mark") + "return"),
		"no instructions":           some(""),
		"a text of 255 wrong bytes": changed(some("return"), func(c *api.Code) { c.Strs[0] = strings.Repeat("\xff", 255) }),
		"a name of 255 bytes":       changed(some("return"), func(c *api.Code) { c.Units[2].Name = strings.Repeat("a", 255) }),
		"an Op far above":           changed(some("return"), func(c *api.Code) { c.Units[0].Ins[0].Op = 1 << 40 }),
		"an Op that wraps round":    changed(some("return"), func(c *api.Code) { c.Units[0].Ins[0].Op = 1<<32 + api.OpReturn }),
		"wrong heights":             some("pop; return"),
	} {
		expectNoLoad(t, what, bytesOf(pieces(c)), api.ErrArg)
	}
}

// P7.3, P7.5: variables have no limit of their own, but that of a count.
func TestManyVariables(t *testing.T) {
	c := some("return")
	c.Units[0].Vars = slices.Repeat([]api.Var{{Name: "x", Slot: 1, To: 1}}, 1<<20)
	b, err := Bytes(c)
	expect(t, "the most: Bytes", err, api.OK)
	back, err := Load(b)
	expect(t, "the most: Load", err, api.OK)
	if !slices.Equal(back.Units[0].Vars, c.Units[0].Vars) {
		t.Error("the most: they are others")
	}
	c.Units[0].Vars = append(c.Units[0].Vars, c.Units[0].Vars[0])
	b, err = Bytes(c)
	expect(t, "one more: Bytes", err, api.OK)
	expectNoLoad(t, "one more", b, api.ErrBig)
}

// within tells whether a text lies in the memory of another.
func within(x, s string) bool {
	p, from := uintptr(unsafe.Pointer(unsafe.StringData(x))), uintptr(unsafe.Pointer(unsafe.StringData(s)))
	return x != "" && s != "" && from <= p && p < from+uintptr(len(s))
}

// allTexts tells all texts of a code.
func allTexts(c api.Code) []string {
	l := slices.Clone(c.Strs)
	for _, s := range c.Shapes {
		l = append(append(l, s.Name), s.Fields...)
	}
	for _, u := range c.Units {
		l = append(l, u.Name)
		for _, v := range u.Vars {
			l = append(l, v.Name)
		}
	}
	return l
}

// The rules: an answer is new memory, and nothing is kept.
func TestNewMemory(t *testing.T) {
	c := full()
	first, _ := Bytes(c)
	second, _ := Bytes(c)
	want := slices.Clone(first)
	fill(second[:cap(second)], '?')
	if !bytes.Equal(first, want) {
		t.Error("bytes are shared")
	}

	given := slices.Clone(first)
	a, _ := Load(given)
	b, _ := Load(given)
	fill(given, '?')
	texts := append(allTexts(a), allTexts(b)...)
	for n, s := range texts {
		for m, other := range texts {
			if n != m && within(s, other) && len(other) > 1 {
				t.Fatalf("the texts %q and %q are shared", s, other)
			}
		}
	}
	spoil(b)
	if !same(a, full()) {
		t.Errorf("a code that was loaded is spoilt: %v", a)
	}

	h, _ := Heights(c, 0)
	other, _ := Heights(c, 0)
	was := slices.Clone(h)
	fill(other[:cap(other)], 99)
	if !slices.Equal(h, was) {
		t.Error("heights are shared")
	}

	l, _ := List(c)
	lines, _ := List(c)
	fill(lines[:cap(lines)], "")
	if !slices.Equal(l, listByWords(c)) {
		t.Error("lines are shared")
	}
	for _, line := range l {
		for _, s := range allTexts(c) {
			if within(s, line) || within(line, s) {
				t.Errorf("the line %q is shared with %q", line, s)
			}
		}
	}
}

func fill[T any](l []T, x T) {
	for i := range l {
		l[i] = x
	}
}

// spoil writes over all lists of a code, and over what stands behind them.
func spoil(c api.Code) {
	for _, s := range c.Shapes {
		fill(s.Fields[:cap(s.Fields)], "?")
	}
	for _, u := range c.Units {
		fill(u.Ins[:cap(u.Ins)], api.Ins{Op: -1})
		fill(u.Vars[:cap(u.Vars)], api.Var{Name: "?"})
	}
	fill(c.Strs[:cap(c.Strs)], "?")
	fill(c.Shapes[:cap(c.Shapes)], api.Shape{Name: "?"})
	fill(c.Units[:cap(c.Units)], api.Unit{Name: "?"})
}

// The rules: what is handed in is not changed, and what stands behind a list's end neither.
func TestGivenStays(t *testing.T) {
	room := changed(full(), func(c *api.Code) {
		c.Strs = append(c.Strs, "behind")
		c.Shapes = append(c.Shapes, api.Shape{Name: "behind"})
		c.Units = append(c.Units, api.Unit{Name: "behind"})
		for i := range 3 {
			c.Units[i].Ins = append(c.Units[i].Ins, api.Ins{Op: 77})
			c.Units[i].Vars = append(c.Units[i].Vars, api.Var{Name: "behind"})
		}
	})
	was := clone(room)
	c := room
	c.Strs, c.Shapes, c.Units = room.Strs[:4], room.Shapes[:2], slices.Clone(room.Units[:3])
	for i, u := range c.Units {
		c.Units[i].Ins, c.Units[i].Vars = u.Ins[:len(u.Ins)-1], u.Vars[:len(u.Vars)-1]
	}
	expectRight(t, "a code with something behind its lists", c)
	if !reflect.DeepEqual(room, was) {
		t.Error("what stands behind the lists is changed")
	}
	b, _ := Bytes(c)
	given := append(slices.Clone(b), "behind"...)
	if back, err := Load(given[:len(b)]); err != api.OK || !same(back, c) {
		t.Error("bytes with others behind them are not read")
	}
	if !bytes.Equal(given, append(slices.Clone(b), "behind"...)) {
		t.Error("bytes are changed")
	}
}
