package command

import (
	"bytes"
	"slices"
	"strings"
	"testing"
	"unsafe"

	"hindcast/api"
	"hindcast/wire"
)

// Put changes neither the bytes that are handed in nor what stands behind their end, and answers new bytes each time.
func TestPutIsNewMemory(t *testing.T) {
	for _, c := range append(all(), wrongs()...) {
		for _, room := range []int{0, 1, 2, 3, 20, 400} {
			b := bytes.Repeat([]byte{'r'}, 2+room)
			b[0], b[1] = 'x', 'y'
			one := Put(b[:2], c)
			two := Put(b[:2], c)
			expect(t, "what was handed in, and what stands behind", string(b), "xy"+strings.Repeat("r", room))
			spoil(one)
			expect(t, "what was handed in, once the answer was spoilt", string(b), "xy"+strings.Repeat("r", room))
			expect(t, "the other answer", string(two), "xy"+string(modelBytes(c)))
			three := Put(b[:2], c)
			spoil(b)
			expect(t, "the answer, once what was handed in was spoilt", string(three), "xy"+string(modelBytes(c)))
		}
	}
}

// Bytes that a reader was made of are not changed, and what was got of it stays whatever is done to them.
func TestGetIsNewMemory(t *testing.T) {
	for _, c := range all() {
		b := Put(nil, c)
		was := slices.Clone(b)
		r := wire.NewReader(b)
		got := Get(r)
		expect(t, "the bytes", string(b), string(was))
		spoil(b)
		expect(t, "what was got", got, c)
	}
}

// spoil writes into bytes, and into what room they have.
func spoil(b []byte) {
	b = b[:cap(b)]
	for i := range b {
		b[i] = '!'
	}
}

// shares tells whether a text shares memory with another one.
func shares(x, s string) bool {
	if len(x) < 2 || len(s) < 2 { // a text of one byte is one of Go's own
		return false
	}
	p, from := uintptr(unsafe.Pointer(unsafe.StringData(x))), uintptr(unsafe.Pointer(unsafe.StringData(s)))
	return from <= p && p < from+uintptr(len(s)) || p <= from && from < p+uintptr(len(x))
}

// Texts share no memory with what was handed in, or with one another.
func TestTextsOfTheirOwn(t *testing.T) {
	for _, c := range all() {
		c.S = strings.Clone(c.S)
		one, _ := Print(c)
		two, _ := Print(c)
		first, _ := Parse(one)
		second, _ := Parse(one)
		b := Put(nil, c)
		r := wire.NewReader(append(b, b...))
		l := []string{c.S, one, two, first.S, second.S, Get(r).S, Get(r).S}
		for i, x := range l {
			for _, s := range l[:i] {
				if shares(x, s) {
					t.Errorf("%.50q shares memory with %.50q", x, s)
				}
			}
		}
	}
}

// The same is told of the same, whatever was asked ahead of it.
func TestAgain(t *testing.T) {
	for range 3 {
		for _, c := range append(all(), wrongs()...) {
			one, oneErr := Print(c)
			Parse(one)
			Parse("break 1 if " + one)
			Check(api.Cmd{Kind: c.Kind})
			two, twoErr := Print(c)
			expect(t, "the text", two, one)
			expect(t, "the error", twoErr, oneErr)
		}
	}
}
