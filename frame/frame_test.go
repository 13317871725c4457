package frame

import (
	"bytes"
	"encoding/binary"
	"hash/crc32"
	"math"
	"runtime"
	"slices"
	"strings"
	"testing"

	"hindcast/api"
	"hindcast/wire"
)

func expect[T comparable](t *testing.T, what string, got, want T) {
	t.Helper()
	if got != want {
		t.Errorf("%s: %v, not %v", what, got, want)
	}
}

// some tells as many bytes as are asked for, the same each time.
func some(from, n int) []byte {
	b := make([]byte, n)
	x := uint64(from)
	for i := range b {
		x = x*6364136223846793005 + 1442695040888963407
		b[i] = byte(x >> 56)
	}
	return b
}

// framed tells a frame by the words of the chapter, with the library's sum.
func framed(x []byte) []byte {
	b := append(wire.PutInt(nil, len(x)), x...)
	return binary.LittleEndian.AppendUint32(b, crc32.ChecksumIEEE(b))
}

// summed puts the right sum behind bytes that need not be a length and as many bytes.
func summed(b string) []byte {
	return binary.LittleEndian.AppendUint32([]byte(b), crc32.ChecksumIEEE([]byte(b)))
}

func mustPut(t *testing.T, b, x []byte) []byte {
	t.Helper()
	b, err := Put(b, x)
	if err != api.OK {
		t.Fatalf("Put: %d", err)
	}
	return b
}

func expectGot(t *testing.T, what string, b []byte, at int, want []byte, behind int) {
	t.Helper()
	x, n, err := Get(b, at)
	if !bytes.Equal(x, want) || n != behind || err != api.OK {
		t.Errorf("%s: %d bytes, %d, %d, not %d bytes, %d, OK", what, len(x), n, err, len(want), behind)
	}
}

func expectRefused(t *testing.T, what string, b []byte, at int, want api.Errno) {
	t.Helper()
	if x, n, err := Get(b, at); len(x) != 0 || n != 0 || err != want {
		t.Errorf("%s: %x, %d, %d, not nothing, 0, %d", what, x, n, err, want)
	}
}

func expectAll(t *testing.T, what string, b []byte, want [][]byte, place int) {
	t.Helper()
	all, n := All(b)
	if !slices.EqualFunc(all, want, bytes.Equal) || n != place {
		t.Errorf("%s: %d frames up to %d, not %d up to %d", what, len(all), n, len(want), place)
	}
}

// sizes are lengths of frames, with those at which a length takes a byte more.
func sizes() []int { return []int{0, 1, 2, 63, 64, 65, 300, 8191, 8192, 8193} }

// P2.1: Sum.
func TestSum(t *testing.T) {
	for _, c := range []struct {
		b    string
		want uint32
	}{
		{"", 0},
		{"a", 0xe8b7be43},
		{"abc", 0x352441c2},
		{"123456789", 0xcbf43926},
		{"\x00", 0xd202ef8d},
		{"\xff", 0xff000000},
		{"\x00\x00\x00\x00", 0x2144df1c},
		{"\xff\xff\xff\xff", 0xffffffff},
		{"The quick brown fox jumps over the lazy dog", 0x414fa339},
	} {
		expect(t, c.b, Sum([]byte(c.b)), c.want)
	}
	expect(t, "an empty list", Sum([]byte{}), 0)
	for x := range 256 {
		b := []byte{byte(x)}
		expect(t, "one byte", Sum(b), crc32.ChecksumIEEE(b))
	}
	for n := range 300 {
		b := some(n, n)
		expect(t, "many bytes", Sum(b), crc32.ChecksumIEEE(b))
	}
}

// P2.1: More, behind any sum.
func TestMore(t *testing.T) {
	for n := range 300 {
		b := some(n+1000, n)
		expect(t, "behind nothing", More(0, b), Sum(b))
		for _, sum := range []uint32{0, 1, 0xcbf43926, 1 << 31, math.MaxUint32} {
			expect(t, "behind a sum", More(sum, b), crc32.Update(sum, crc32.IEEETable, b))
			expect(t, "nothing behind a sum", More(sum, nil), sum)
		}
	}
}

// P2.2: Put.
func TestPut(t *testing.T) {
	expect(t, "a", string(mustPut(t, nil, []byte("a"))), "\x02a"+string(summed("\x02a")[2:]))
	expect(t, "nothing", string(mustPut(t, nil, nil)), "\x00\x8d\xef\x02\xd2")
	expect(t, "an empty list", string(mustPut(t, []byte{}, []byte{})), "\x00\x8d\xef\x02\xd2")
	for _, n := range sizes() {
		x := some(n, n)
		for _, ahead := range []string{"", "x", "\x00\xff", strings.Repeat("ahead", 100)} {
			expect(t, "frame", string(mustPut(t, []byte(ahead), x)), ahead+string(framed(x)))
		}
	}
}

// P2.2: MaxFrame bytes, and one more.
func TestPutMost(t *testing.T) {
	x := some(1, api.MaxFrame+1)
	if b := mustPut(t, []byte("ab"), x[:api.MaxFrame]); string(b) != "ab"+string(framed(x[:api.MaxFrame])) {
		t.Error("MaxFrame bytes are put otherwise")
	}
	for _, b := range [][]byte{nil, []byte("ab")} {
		got, err := Put(b, x)
		expect(t, "one more", err, api.ErrBig)
		expect(t, "bytes of one more", len(got), 0)
	}
}

// P2.3: Get.
func TestGet(t *testing.T) {
	for _, n := range sizes() {
		x := some(n, n)
		f := framed(x)
		for _, ahead := range []string{"", "x", "\x00\xff", strings.Repeat("\x80", 20)} {
			for _, behind := range []string{"", "\x00", "\xff\xff", strings.Repeat("\x80", 20)} {
				b := ahead + string(f) + behind
				expectGot(t, "frame", []byte(b), len(ahead), x, len(ahead)+len(f))
			}
		}
	}
}

// P2.3: MaxFrame bytes, and one more with the right sum.
func TestGetMost(t *testing.T) {
	x := some(2, api.MaxFrame+1)
	f := framed(x[:api.MaxFrame])
	expectGot(t, "MaxFrame bytes", f, 0, x[:api.MaxFrame], len(f))
	expectRefused(t, "one more", framed(x), 0, api.ErrBig)
}

// P2.3: a place that is none; at the end there are no bytes, which is another thing.
func TestGetPlace(t *testing.T) {
	f := framed([]byte("abc"))
	for _, at := range []int{-1, -2, math.MinInt, len(f) + 1, len(f) + 2, math.MaxInt} {
		expectRefused(t, "place", f, at, api.ErrArg)
		expectRefused(t, "place with room behind", f[:5:len(f)], at, api.ErrArg)
	}
	expectRefused(t, "at the end", f, len(f), api.ErrShort)
	for _, b := range [][]byte{nil, {}} {
		expectRefused(t, "below 0 of nothing", b, -1, api.ErrArg)
		expectRefused(t, "at the end of nothing", b, 0, api.ErrShort)
		expectRefused(t, "behind nothing", b, 1, api.ErrArg)
	}
}

// P2.3: what goes wrong in reading the length, also where all the rest is right, or is missing.
func TestGetWrongLength(t *testing.T) {
	nine := strings.Repeat("\xff", 9)
	for _, c := range []struct {
		length string
		err    api.Errno
	}{
		{"\x80\x00", api.ErrFormat},
		{"\x82\x00", api.ErrFormat},
		{"\x80\x80\x00", api.ErrFormat},
		{"\x80\x80\x80\x80\x80\x80\x80\x80\x80\x00", api.ErrFormat},
		{nine + "\x02", api.ErrFormat},
		{nine + "\x80", api.ErrFormat},
		{nine + "\x81\x01", api.ErrFormat},
		{"\x01", api.ErrFormat},
		{"\x03", api.ErrFormat},
		{string(wire.PutInt(nil, -api.MaxFrame)), api.ErrFormat},
		{string(wire.PutInt(nil, math.MinInt)), api.ErrFormat},
		{string(wire.PutInt(nil, api.MaxFrame+1)), api.ErrBig},
		{string(wire.PutInt(nil, 1<<31)), api.ErrBig},
		{string(wire.PutInt(nil, math.MaxInt)), api.ErrBig},
	} {
		for _, x := range []string{"", "a", "abcdefghijkl"} {
			whole := summed(c.length + x)
			expectRefused(t, "wrong length", whole, 0, c.err)
			expectRefused(t, "wrong length behind bytes", append([]byte("\x02a"), whole...), 2, c.err)
		}
		expectRefused(t, "wrong length alone", []byte(c.length), 0, c.err)
	}
}

// P2.3: bytes that end within the length, within x, and within the sum; what stands in the room behind them has no say.
func TestGetShort(t *testing.T) {
	for _, n := range []int{0, 1, 63, 64, 300, 8192} {
		f := framed(some(n, n))
		for end := range f {
			expectRefused(t, "cut off", f[:end], 0, api.ErrShort)
			expectRefused(t, "cut off behind bytes", append([]byte("\x02a"), f[:end]...), 2, api.ErrShort)
		}
	}
	for n := range 10 {
		expectRefused(t, "length alone", bytes.Repeat([]byte{0x80}, n), 0, api.ErrShort)
	}
	expectRefused(t, "MaxFrame bytes that are missing", wire.PutInt(nil, api.MaxFrame), 0, api.ErrShort)
}

// P2.3: bytes that are too few are so ahead of their sum; the sum is of the length too.
func TestGetWrongSum(t *testing.T) {
	for _, b := range []string{
		"\x02a\x00\x00\x00\x00",
		"\x00\x00\x00\x00\x00",
		"\x00\xff\xff\xff\xff",
		"\x02a" + string(summed("a")[1:]),
		"\x02b" + string(summed("\x02a")[2:]),
		"\x04" + string(summed("\x02ab")[1:]),
	} {
		expectRefused(t, "another sum", []byte(b), 0, api.ErrFormat)
		expectRefused(t, "another sum behind bytes", []byte("ahead"+b+"behind"), 5, api.ErrFormat)
		expectRefused(t, "another sum, cut off", []byte(b[:len(b)-1]), 0, api.ErrShort)
	}
	f := framed([]byte("abc"))
	sum := f[len(f)-4:]
	slices.Reverse(sum)
	expectRefused(t, "the highest byte first", f, 0, api.ErrFormat)
}

// row tells frames one behind the other: what is in each, and the place behind each.
func row(t *testing.T, from int, sizes ...int) (b []byte, all [][]byte, ends []int) {
	for i, n := range sizes {
		x := some(from+i, n)
		b = mustPut(t, b, x)
		all, ends = append(all, x), append(ends, len(b))
	}
	return b, all, ends
}

// P2.4: All, with nothing, and with what is no frame behind.
func TestAll(t *testing.T) {
	expectAll(t, "no bytes", nil, nil, 0)
	expectAll(t, "an empty list", []byte{}, nil, 0)
	a := framed([]byte("a"))
	expectAll(t, "a", a, [][]byte{[]byte("a")}, 6)
	expectAll(t, "a, and ff", append(bytes.Clone(a), 0xff), [][]byte{[]byte("a")}, 6)
	expectAll(t, "ff, and a", append([]byte{0xff}, a...), nil, 0)
	b, all, ends := row(t, 1, 0, 1, 0, 0, 64, 300, 2)
	expectAll(t, "many", b, all, len(b))
	for i, end := range ends {
		wrong := bytes.Clone(b)
		wrong[end-1] ^= 1
		expectAll(t, "the sum of one is another", wrong, all[:i], end-len(framed(all[i])))
	}
	for _, behind := range []string{"\x00", "\x01", "\x80\x00", "\xff\xff\xff\x01", "\x02a\x00\x00\x00\x00", "\x02a"} {
		expectAll(t, "what is no frame", append(bytes.Clone(b), behind...), all, len(b))
		again := append(append(bytes.Clone(b), behind...), framed(nil)...)
		expectAll(t, "what is no frame, and a frame", again, all, len(b))
	}
}

// P2.4: many frames; what is left of the bytes is not copied for each of them, which would be a hundred times as much.
func TestAllOfMany(t *testing.T) {
	b := bytes.Repeat(framed(nil), 200000)
	var was, is runtime.MemStats
	runtime.ReadMemStats(&was)
	all, n := All(b)
	runtime.ReadMemStats(&is)
	expect(t, "frames", len(all), 200000)
	expect(t, "place", n, len(b))
	if made := is.TotalAlloc - was.TotalAlloc; made > 1<<30 {
		t.Errorf("%d bytes of memory are made for %d", made, len(b))
	}
}

// P2.5: what is put is got, wherever it stands.
func TestThereAndBack(t *testing.T) {
	var b []byte
	for n := range 200 {
		x := some(n, n)
		at := len(b)
		b = mustPut(t, b, x)
		expectGot(t, "at the end", b, at, x, len(b))
		expectGot(t, "with bytes behind", append(bytes.Clone(b), 0x80, 0), at, x, len(b))
	}
	at := 0
	for n := range 200 {
		x, behind, err := Get(b, at)
		if !bytes.Equal(x, some(n, n)) || err != api.OK {
			t.Fatalf("frame %d: %d bytes, %d", n, len(x), err)
		}
		at = behind
	}
	expect(t, "place", at, len(b))
}

// P2.6: frames that are cut off anywhere.
func TestCut(t *testing.T) {
	b, all, ends := row(t, 50, 3, 0, 70, 0, 1, 130, 64)
	for cut := range len(b) + 1 {
		whole, place := 0, 0
		for whole < len(ends) && ends[whole] <= cut {
			place = ends[whole]
			whole++
		}
		expectAll(t, "cut off", b[:cut], all[:whole], place)
	}
}

// turn turns the bits of a pattern from a bit on, which are counted from the lowest one of each byte on.
func turn(b []byte, bit int, pattern uint32) []byte {
	turned := bytes.Clone(b)
	for i := range 32 {
		if pattern>>i&1 == 1 {
			turned[(bit+i)/8] ^= 1 << ((bit + i) % 8)
		}
	}
	return turned
}

// P2.7: 1 to 32 bits in a row that are turned, all of them, and some of them.
func TestTurned(t *testing.T) {
	for _, n := range []int{0, 1, 5, 64} {
		f := framed(some(n, n))
		length := len(wire.PutInt(nil, n))
		for bit := 8 * length; bit < 8*len(f); bit++ {
			for size := 1; size <= 32 && bit+size <= 8*len(f); size++ {
				all := uint32(1<<size - 1)
				ends := uint32(1 | 1<<(size-1))
				mixed := binary.LittleEndian.Uint32(some(bit*33+size, 4))&all | ends
				for _, pattern := range []uint32{all, ends, mixed} {
					expectRefused(t, "turned", turn(f, bit, pattern), 0, api.ErrFormat)
				}
			}
		}
	}
}

// P2.7: bits that are turned in a frame among others cost it, and not those ahead.
func TestTurnedInRow(t *testing.T) {
	b, all, ends := row(t, 70, 4, 6, 2)
	for bit := 8 * (ends[0] + 1); bit+32 <= 8*ends[1]; bit++ {
		expectAll(t, "turned", turn(b, bit, math.MaxUint32), all[:1], ends[0])
	}
}

// P2.8: the sum of bytes in two parts, wherever they are cut.
func TestJoined(t *testing.T) {
	b := some(9, 200)
	for cut := range len(b) + 1 {
		expect(t, "two parts", More(Sum(b[:cut]), b[cut:]), Sum(b))
	}
	expect(t, "example", More(Sum([]byte("1234")), []byte("56789")), 0xcbf43926)
}

// P2.8: the sum of three rows' xor.
func TestJoinedXor(t *testing.T) {
	for n := range 200 {
		a, b, c := some(n, n), some(n+500, n), some(n+900, n)
		x := make([]byte, n)
		for i := range x {
			x[i] = a[i] ^ b[i] ^ c[i]
		}
		expect(t, "xor", Sum(x), Sum(a)^Sum(b)^Sum(c))
	}
}

// The rules: what is handed in is not changed, nor what stands behind its end, and answers share nothing.
func TestPutIsNewMemory(t *testing.T) {
	room := []byte("abcdefghijklmnopqrstuvwxyz")
	other := []byte("ABCDEFGHIJKLMNOP")
	first, second := mustPut(t, room[:2], other[:3]), mustPut(t, room[:2], other[:3])
	expect(t, "room", string(room), "abcdefghijklmnopqrstuvwxyz")
	expect(t, "room of x", string(other), "ABCDEFGHIJKLMNOP")
	wipe(room, other, second)
	expect(t, "first", string(first), "ab"+string(framed([]byte("ABC"))))
}

func TestGetIsNewMemory(t *testing.T) {
	b := append(framed([]byte("abc")), "behind"...)
	was := bytes.Clone(b)
	first, _, _ := Get(b, 0)
	second, _, _ := Get(b, 0)
	wipe(second)
	expect(t, "bytes", string(b), string(was))
	wipe(b)
	expect(t, "first", string(first), "abc")
}

func TestAllIsNewMemory(t *testing.T) {
	b := append(framed([]byte("abc")), framed([]byte("de"))...)
	was := bytes.Clone(b)
	first, _ := All(b)
	second, _ := All(b)
	wipe(second...)
	wipe(first[0])
	expect(t, "bytes", string(b), string(was))
	wipe(b)
	expect(t, "the second of the first answer", string(first[1]), "de")
}

// wipe writes over bytes, and over the room behind them.
func wipe(lists ...[]byte) {
	for _, l := range lists {
		l = l[:cap(l)]
		for i := range l {
			l[i] = '?'
		}
	}
}
