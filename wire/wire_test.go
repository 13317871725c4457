package wire

import (
	"bytes"
	"math"
	"strings"
	"testing"

	"hindcast/api"
)

// forms are numbers and their one form each: the first and the last number of as many bytes as can be, on both sides of 0.
var forms = []struct {
	n    int
	want string
}{
	{0, "\x00"},
	{-1, "\x01"},
	{1, "\x02"},
	{63, "\x7e"},
	{-64, "\x7f"},
	{64, "\x80\x01"},
	{-65, "\x81\x01"},
	{300, "\xd8\x04"},
	{8191, "\xfe\x7f"},
	{-8192, "\xff\x7f"},
	{8192, "\x80\x80\x01"},
	{-8193, "\x81\x80\x01"},
	{1<<31 - 1, "\xfe\xff\xff\xff\x0f"},
	{1<<55 - 1, "\xfe\xff\xff\xff\xff\xff\xff\x7f"},
	{1 << 55, "\x80\x80\x80\x80\x80\x80\x80\x80\x01"},
	{1<<62 - 1, "\xfe\xff\xff\xff\xff\xff\xff\xff\x7f"},
	{-1 << 62, "\xff\xff\xff\xff\xff\xff\xff\xff\x7f"},
	{1 << 62, "\x80\x80\x80\x80\x80\x80\x80\x80\x80\x01"},
	{-1<<62 - 1, "\x81\x80\x80\x80\x80\x80\x80\x80\x80\x01"},
	{math.MaxInt, "\xfe\xff\xff\xff\xff\xff\xff\xff\xff\x01"},
	{math.MinInt, "\xff\xff\xff\xff\xff\xff\xff\xff\xff\x01"},
}

// wrongInts are bytes at which no number stands, and what is wrong with them.
var wrongInts = []struct {
	b   string
	err api.Errno
}{
	{"", api.ErrShort},
	{"\x80", api.ErrShort},
	{"\xff\xff", api.ErrShort},
	{strings.Repeat("\xff", 9), api.ErrShort},
	{strings.Repeat("\x80", 9), api.ErrShort},
	{"\x80\x00", api.ErrFormat},
	{"\x80\x00\x01", api.ErrFormat},
	{"\xff\x80\x00", api.ErrFormat},
	{strings.Repeat("\xff", 9) + "\x00", api.ErrFormat},
	{strings.Repeat("\xff", 9) + "\x02", api.ErrFormat},
	{strings.Repeat("\xff", 9) + "\x03", api.ErrFormat},
	{strings.Repeat("\xff", 9) + "\x7f", api.ErrFormat},
	{strings.Repeat("\xff", 9) + "\x80", api.ErrFormat},
	{strings.Repeat("\xff", 9) + "\x81", api.ErrFormat}, // the tenth byte is wrong before an eleventh is missed
	{strings.Repeat("\xff", 9) + "\x81\x00", api.ErrFormat},
	{strings.Repeat("\xff", 9) + "\x81\x01", api.ErrFormat},
	{strings.Repeat("\x80", 10) + "\x01", api.ErrFormat},
	{strings.Repeat("\xff", 11), api.ErrFormat},
}

func expect[T comparable](t *testing.T, what string, got, want T) {
	t.Helper()
	if got != want {
		t.Errorf("%s: %v, not %v", what, got, want)
	}
}

// expectUnwell holds a reader against what went wrong, and where, whatever else is asked of it.
func expectUnwell(t *testing.T, what string, r *Reader, err api.Errno, at int) {
	t.Helper()
	for range 2 {
		expect(t, what+": Err", r.Err(), err)
		expect(t, what+": End", r.End(), err)
		expect(t, what+": At", r.At(), at)
		expect(t, what+": Int", r.Int(), 0)
		expect(t, what+": Bool", r.Bool(), false)
		expect(t, what+": Count", r.Count(math.MaxInt), 0)
		expect(t, what+": Text", r.Text(math.MaxInt), "")
	}
}

// P1.1: PutInt.
func TestPutInt(t *testing.T) {
	for _, f := range forms {
		expect(t, "behind nothing", string(PutInt(nil, f.n)), f.want)
		expect(t, "behind an empty list", string(PutInt([]byte{}, f.n)), f.want)
		expect(t, "behind bytes", string(PutInt([]byte("ab"), f.n)), "ab"+f.want)
	}
}

// P1.1: PutBool.
func TestPutBool(t *testing.T) {
	expect(t, "false", string(PutBool(nil, false)), "\x00")
	expect(t, "true", string(PutBool(nil, true)), "\x01")
	expect(t, "behind bytes", string(PutBool([]byte("ab"), true)), "ab\x01")
}

// P1.1: PutText; a text is any bytes, and of any length.
func TestPutText(t *testing.T) {
	expect(t, "no bytes", string(PutText(nil, "")), "\x00")
	expect(t, "two", string(PutText(nil, "ab")), "\x04ab")
	expect(t, "no letters", string(PutText(nil, "\x00\xff")), "\x04\x00\xff")
	expect(t, "behind bytes", string(PutText([]byte("ab"), "c")), "ab\x02c")
	long := strings.Repeat("x", 300)
	expect(t, "300", string(PutText(nil, long)), "\xd8\x04"+long)
}

// P1.1 and the rules: what is handed in is not changed, nor what stands behind its end, and answers share nothing.
func TestPutIsNewMemory(t *testing.T) {
	puts := []func(b []byte) []byte{
		func(b []byte) []byte { return PutInt(b, 300) },
		func(b []byte) []byte { return PutBool(b, true) },
		func(b []byte) []byte { return PutText(b, "xy") },
	}
	for i, put := range puts {
		room := []byte("abcdefghijklmnop")
		b := room[:2]
		first, second := put(b), put(b)
		expect(t, "room", string(room), "abcdefghijklmnop")
		want := string(first)
		for _, l := range [][]byte{room, second[:cap(second)]} {
			for j := range l {
				l[j] = '?'
			}
		}
		if string(first) != want {
			t.Errorf("put %d shares its answer", i)
		}
	}
}

// P1.2: Int, at all edges of how many bytes a number has.
func TestInt(t *testing.T) {
	for _, f := range forms {
		r := NewReader([]byte(f.want))
		expect(t, "Int", r.Int(), f.n)
		expect(t, "At", r.At(), len(f.want))
		expect(t, "Err", r.Err(), api.OK)
		expect(t, "End", r.End(), api.OK)
	}
}

// P1.2: what is no number, at the beginning and behind something that was read well.
func TestWrongInt(t *testing.T) {
	for _, w := range wrongInts {
		r := NewReader([]byte(w.b))
		expect(t, "Int", r.Int(), 0)
		expectUnwell(t, "at 0", r, w.err, 0)
		r = NewReader([]byte("\x80\x01" + w.b))
		expect(t, "first Int", r.Int(), 64)
		expect(t, "second Int", r.Int(), 0)
		expectUnwell(t, "at 2", r, w.err, 2)
	}
}

// P1.2: Bool.
func TestBool(t *testing.T) {
	r := NewReader([]byte{0, 1, 0})
	expect(t, "first", r.Bool(), false)
	expect(t, "second", r.Bool(), true)
	expect(t, "At", r.At(), 2)
	expect(t, "third", r.Bool(), false)
	expect(t, "End", r.End(), api.OK)
	expect(t, "fourth", r.Bool(), false)
	expectUnwell(t, "no byte", r, api.ErrShort, 3)
	for x := 2; x < 256; x++ {
		r := NewReader([]byte{1, byte(x), 1})
		expect(t, "truth", r.Bool(), true)
		expect(t, "no truth", r.Bool(), false)
		expectUnwell(t, "no truth", r, api.ErrFormat, 1)
	}
}

// P1.2: Count, with a number at most, just above most, and below 0.
func TestCount(t *testing.T) {
	for _, c := range []struct {
		n, most int
		err     api.Errno
	}{
		{0, 0, api.OK},
		{0, -1, api.OK},
		{0, math.MinInt, api.OK},
		{1, 0, api.ErrBig},
		{1, -1, api.ErrBig},
		{1, -5, api.ErrBig},
		{1, math.MinInt, api.ErrBig},
		{299, 300, api.OK},
		{300, 300, api.OK},
		{301, 300, api.ErrBig},
		{math.MaxInt, math.MaxInt, api.OK},
		{math.MaxInt, math.MaxInt - 1, api.ErrBig},
		{-1, 300, api.ErrFormat},
		{-1, -1, api.ErrFormat}, // a most below 0 lets no number below 0 in
		{-1, -5, api.ErrFormat},
		{math.MinInt, math.MinInt, api.ErrFormat},
	} {
		b := PutInt([]byte{1}, c.n)
		r := NewReader(b)
		r.Bool()
		n := r.Count(c.most)
		if c.err != api.OK {
			expect(t, "wrong Count", n, 0)
			expectUnwell(t, "wrong Count", r, c.err, 1)
			continue
		}
		expect(t, "Count", n, c.n)
		expect(t, "Count: At", r.At(), len(b))
		expect(t, "Count: Err", r.Err(), api.OK)
	}
	for _, w := range wrongInts {
		r := NewReader([]byte(w.b))
		expect(t, "Count of no number", r.Count(9), 0)
		expectUnwell(t, "Count of no number", r, w.err, 0)
	}
}

// P1.2: Text.
func TestText(t *testing.T) {
	r := NewReader([]byte("\x04ab\x00\x06\x00\xff\x80x"))
	expect(t, "as long as may be", r.Text(2), "ab")
	expect(t, "At", r.At(), 3)
	expect(t, "no bytes", r.Text(-1), "")
	expect(t, "At", r.At(), 4)
	expect(t, "no letters", r.Text(math.MaxInt), "\x00\xff\x80")
	expect(t, "At", r.At(), 8)
	expect(t, "Err", r.Err(), api.OK)
	long := strings.Repeat("y", 300)
	expect(t, "300", NewReader([]byte("\xd8\x04"+long)).Text(300), long)
}

// P1.2: a text's length is a count, and is asked ahead of its bytes; the reader stays where the text begins, not where its bytes do.
func TestWrongText(t *testing.T) {
	for _, c := range []struct {
		b    string
		most int
		err  api.Errno
	}{
		{"\x04a", 2, api.ErrShort},
		{"\x04", 2, api.ErrShort},
		{"\x02", math.MaxInt, api.ErrShort},
		{"\x04ab", 1, api.ErrBig},
		{"\x04a", 1, api.ErrBig},
		{"\x02a", 0, api.ErrBig},
		{"\x02a", -1, api.ErrBig},
		{"\x01a", 9, api.ErrFormat},
		{"\x01a", -1, api.ErrFormat},
		{"\xfe\xff\xff\xff\xff\xff\xff\xff\xff\x01ab", math.MaxInt, api.ErrShort},
		{"\xff\xff\xff\xff\xff\xff\xff\xff\xff\x01ab", math.MaxInt, api.ErrFormat},
	} {
		r := NewReader([]byte("\x01" + c.b))
		r.Bool()
		expect(t, "wrong Text", r.Text(c.most), "")
		expectUnwell(t, "wrong Text", r, c.err, 1)
	}
	for _, w := range wrongInts {
		r := NewReader([]byte(w.b))
		expect(t, "Text of no length", r.Text(9), "")
		expectUnwell(t, "Text of no length", r, w.err, 0)
	}
}

// P1.2: once something went wrong, what could be read from there otherwise is not read any more.
func TestUnwellStaysSo(t *testing.T) {
	for what, fail := range map[string]func(r *Reader){
		"Bool":  func(r *Reader) { r.Bool() },
		"Count": func(r *Reader) { r.Count(1) },
		"Text":  func(r *Reader) { r.Text(1) },
	} {
		r := NewReader([]byte("\x04ab\x01"))
		fail(r)
		if r.Err() == api.OK {
			t.Errorf("%s: well", what)
		}
		expectUnwell(t, what, r, r.Err(), 0)
	}
}

// P1.3: At, Err and End of a reader that is well.
func TestAtErrEnd(t *testing.T) {
	for _, b := range [][]byte{nil, {}} {
		r := NewReader(b)
		expect(t, "At of nothing", r.At(), 0)
		expect(t, "Err of nothing", r.Err(), api.OK)
		expect(t, "End of nothing", r.End(), api.OK)
	}
	r := NewReader([]byte("\x80\x01\x02"))
	for range 2 {
		expect(t, "At first", r.At(), 0)
		expect(t, "Err first", r.Err(), api.OK)
		expect(t, "End first", r.End(), api.ErrBig)
	}
	expect(t, "Int behind End", r.Int(), 64)
	expect(t, "At behind a number", r.At(), 2)
	expect(t, "End behind a number", r.End(), api.ErrBig)
	expect(t, "last Int", r.Int(), 1)
	expect(t, "At the end", r.At(), 3)
	expect(t, "End at the end", r.End(), api.OK)
}

// P1.3: no reader, and one that NewReader did not make.
func TestNoReader(t *testing.T) {
	expectUnwell(t, "no reader", nil, api.ErrNil, 0)
	expectUnwell(t, "one that nothing made", &Reader{}, api.ErrNil, 0)
	expectUnwell(t, "one that nothing made", new(Reader), api.ErrNil, 0)
}

// The rules: a reader neither keeps nor changes what it was handed.
func TestReaderHasItsOwnBytes(t *testing.T) {
	b := []byte("\x04ab\x01\x80\x01")
	r := NewReader(b)
	other := NewReader(b)
	expect(t, "other", other.Text(9), "ab")
	for i := range b {
		b[i] = 0x80
	}
	expect(t, "Text", r.Text(9), "ab")
	expect(t, "Bool", r.Bool(), true)
	expect(t, "Int", r.Int(), 64)
	expect(t, "End", r.End(), api.OK)
	expect(t, "bytes", string(b), strings.Repeat("\x80", 6))
}

// P1.4: of all bytes that are read as something, the very bytes are put.
func TestOneFormOfBytes(t *testing.T) {
	for _, tail := range []string{"", "\x01", "\xff\x03", strings.Repeat("\x80", 7) + "\x01", strings.Repeat("\xfe", 8) + "\x01"} {
		for x := range 1 << 16 {
			b := append([]byte{byte(x), byte(x >> 8)}, tail...)
			r := NewReader(b)
			if n := r.Int(); r.Err() == api.OK && !bytes.Equal(PutInt(nil, n), b[:r.At()]) {
				t.Fatalf("% x is read as %d", b, n)
			}
			r = NewReader(b)
			if s := r.Text(9); r.Err() == api.OK && !bytes.Equal(PutText(nil, s), b[:r.At()]) {
				t.Fatalf("% x is read as %q", b, s)
			}
			r = NewReader(b)
			if is := r.Bool(); r.Err() == api.OK && !bytes.Equal(PutBool(nil, is), b[:r.At()]) {
				t.Fatalf("% x is read as %t", b, is)
			}
		}
	}
}

// P1.4: what is put is read as it was: numbers around each power of two, and texts of many lengths.
func TestPutThenRead(t *testing.T) {
	for i := range 64 {
		for d := -2; d <= 2; d++ {
			for _, n := range []int{1<<i + d, -(1<<i + d)} {
				r := NewReader(PutInt(nil, n))
				expect(t, "Int", r.Int(), n)
				expect(t, "End", r.End(), api.OK)
			}
		}
	}
	for n := range 600 {
		s := strings.Repeat("\x80", n)
		r := NewReader(PutText(nil, s))
		expect(t, "Text", r.Text(n), s)
		expect(t, "End", r.End(), api.OK)
	}
}

// row hands on as many small numbers as are asked for, the same each time.
func row(from, n int) []int {
	l := make([]int, n)
	x := uint64(from)
	for i := range l {
		x = x*6364136223846793005 + 1442695040888963407
		l[i] = int(x >> 33)
	}
	return l
}

// P1.5: what is put one after the other is read so, whatever stands behind it.
func TestRow(t *testing.T) {
	for from, behind := range []string{"", "\x00", "\x01", "\x7f", "\x80", "\xff", strings.Repeat("\xff", 20)} {
		l := row(from, 200)
		var b []byte
		var ends []int
		for _, x := range l {
			b = putSome(b, x)
			ends = append(ends, len(b))
		}
		r := NewReader(append(bytes.Clone(b), behind...))
		for i, x := range l {
			expectSome(t, r, x)
			expect(t, "At", r.At(), ends[i])
		}
		expect(t, "Err", r.Err(), api.OK)
		want := api.OK
		if behind != "" {
			want = api.ErrBig
		}
		expect(t, "End", r.End(), want)
	}
}

// some tells a number of any length, a truth and a text by a number.
func some(x int) (int, bool, string) {
	n := (x - 1<<30) << (x % 34)
	return n, x%3 == 0, strings.Repeat(string(rune('a'+x%26)), x%150)
}

func putSome(b []byte, x int) []byte {
	n, is, s := some(x)
	switch x % 4 {
	case 0:
		return PutInt(b, n)
	case 1:
		return PutBool(b, is)
	case 2:
		return PutText(b, s)
	}
	return PutInt(b, len(s))
}

func expectSome(t *testing.T, r *Reader, x int) {
	t.Helper()
	n, is, s := some(x)
	switch x % 4 {
	case 0:
		expect(t, "Int", r.Int(), n)
	case 1:
		expect(t, "Bool", r.Bool(), is)
	case 2:
		expect(t, "Text", r.Text(149), s)
	default:
		expect(t, "Count", r.Count(149), len(s))
	}
}

// P1.5: each thing alone is read alike, whatever stands behind it.
func TestWhatStandsBehind(t *testing.T) {
	for x := range 256 {
		behind := []byte{byte(x), byte(x)}
		for _, f := range forms {
			r := NewReader(append([]byte(f.want), behind...))
			expect(t, "Int", r.Int(), f.n)
			expect(t, "Int: At", r.At(), len(f.want))
		}
		r := NewReader(append(PutText(PutBool(nil, true), "ab"), behind...))
		expect(t, "Bool", r.Bool(), true)
		expect(t, "Text", r.Text(2), "ab")
		expect(t, "At", r.At(), 4)
		expect(t, "End", r.End(), api.ErrBig)
	}
}
