package store

import (
	"fmt"
	"math"
	"testing"

	"hindcast/api"
)

// The chapter's examples.
func TestExamples(t *testing.T) {
	s := fed(t, 3, 0, 10, 20, 30)
	expectAll(t, "10 goes", s, 0, 20, 30)
	mustPut(t, s, 25, []byte("25"))
	expectAll(t, "30 goes", s, 0, 20, 25)
	expect(t, "what is there", told(s), `0: 0 "0" true; 20: 20 "20" true; 25: 25 "25" true; `)
	s = fed(t, 1, 5, 7)
	expectAll(t, "pos goes", s, 5)
	mustPut(t, s, 3, []byte("3"))
	expectAll(t, "5 goes", s, 3)
	expect(t, "what is there", told(s), `3: 3 "3" true; `)
}

// Words: how many may be, whatever New is handed.
func TestMost(t *testing.T) {
	for _, x := range []struct{ said, most int }{
		{math.MinInt, 1}, {-64, 1}, {-1, 1}, {0, 1}, {1, 1}, {2, 2}, {3, 3}, {7, 7}, {63, 63},
		{64, 64}, {65, 64}, {66, 64}, {128, 64}, {1 << 32, 64}, {1<<32 + 1, 64}, {math.MaxInt, 64},
	} {
		s := New(x.said)
		if s == nil {
			t.Fatalf("New(%d): none", x.said)
		}
		what := fmt.Sprintf("New(%d)", x.said)
		var all []int
		for i := range x.most {
			expectAll(t, what+": ahead", s, all...)
			mustPut(t, s, 10*i, said(i, 0))
			all = append(all, 10*i)
		}
		expectAll(t, what+": just as many as may be", s, all...)
		for i := range x.most {
			expectFloor(t, s, 10*i, 10*i, string(said(i, 0)))
		}
		mustPut(t, s, 10*x.most, said(x.most, 0))
		expect(t, what+": one more", len(s.All()), x.most)
	}
}

// P11.1: a position below 0 is refused, and changes nothing.
func TestPutBelowZero(t *testing.T) {
	for _, s := range []*Store{New(1), New(3), fed(t, 1, 0), fed(t, 1, 4), fed(t, 3, 0, 1), fed(t, 3, 7, 9, 11), fed(t, 64, 0)} {
		was := told(s)
		for _, pos := range []int{-1, -2, -64, math.MinInt32, -1 << 32, math.MinInt + 1, math.MinInt} {
			for _, b := range [][]byte{nil, {}, []byte("a")} {
				expect(t, fmt.Sprintf("Put(%d)", pos), s.Put(pos, b), api.ErrArg)
				expectNoFloor(t, s, pos)
			}
		}
		expect(t, "what is told behind it", told(s), was)
	}
}

// P11.1: the least position is 0, the greatest one is the greatest number.
func TestPutEnds(t *testing.T) {
	for _, pos := range []int{0, 1, math.MaxInt - 1, math.MaxInt} {
		s := New(1)
		expect(t, fmt.Sprintf("Put(%d)", pos), s.Put(pos, []byte("a")), api.OK)
		expectAll(t, "behind it", s, pos)
		expectFloor(t, s, pos, pos, "a")
		expectFloor(t, s, math.MaxInt, pos, "a")
		expectNoFloor(t, s, pos-1)
		expectNoFloor(t, s, -1)
	}
}

// P11.1, P11.4: bytes come in the place of those that were, and none goes.
func TestPutInPlace(t *testing.T) {
	for _, l := range [][]int{{5}, {5, 6, 7}, {0, 5, math.MaxInt}, {0, 1, 2, 3, 4, 5}} {
		for _, most := range []int{len(l), len(l) + 1, 64} {
			s := fed(t, most, l...)
			for i, b := range [][]byte{[]byte("other"), []byte("x"), {}, []byte("longer than the one ahead"), nil, {0}, {0, 0xff}} {
				for _, pos := range l {
					mustPut(t, s, pos, b)
					expectAll(t, fmt.Sprintf("place by place, %d", i), s, l...)
					expectFloor(t, s, pos, pos, string(b))
				}
			}
		}
	}
	s := fed(t, 3, 1, 4, 9)
	mustPut(t, s, 4, []byte("four"))
	expect(t, "others stay", told(s), `1: 1 "1" true; 4: 4 "four" true; 9: 9 "9" true; `)
	mustPut(t, s, 1, nil)
	expect(t, "others stay", told(s), `1: 1 "" true; 4: 4 "four" true; 9: 9 "9" true; `)
}

// P11.1: which one goes.
func TestWhichGoes(t *testing.T) {
	const top = math.MaxInt
	for _, x := range []struct {
		what string
		most int
		puts []int
		want []int
	}{
		{"the nearest in the midst", 4, []int{0, 10, 13, 30, 60}, []int{0, 10, 30, 60}},
		{"the nearest is the second", 4, []int{0, 2, 20, 40, 60}, []int{0, 20, 40, 60}},
		{"the nearest is the greatest", 4, []int{0, 20, 40, 41, 30}, []int{0, 20, 30, 40}},
		{"of several the least", 4, []int{0, 9, 12, 15, 40}, []int{0, 9, 15, 40}},
		{"of several the least, all alike", 5, []int{3, 6, 9, 12, 15, 18}, []int{3, 9, 12, 15, 18}},
		{"of several that do not stand side by side", 5, []int{0, 10, 12, 30, 32, 99}, []int{0, 10, 30, 32, 99}},
		{"not pos, though it is the nearest", 3, []int{0, 10, 30, 31}, []int{0, 30, 31}},
		{"not pos in the midst", 3, []int{0, 100, 300, 101}, []int{0, 101, 300}},
		{"the one above pos is nearer by it", 3, []int{0, 10, 100, 95}, []int{0, 10, 95}},
		{"the one above pos is nearer by it, not the nearest", 3, []int{0, 10, 100, 80}, []int{0, 80, 100}},
		{"above pos and another alike", 3, []int{0, 10, 100, 90}, []int{0, 90, 100}},
		{"below the least: it was the least", 3, []int{10, 20, 30, 5}, []int{5, 20, 30}},
		{"below the least: another", 3, []int{10, 12, 30, 3}, []int{3, 10, 30}},
		{"below the least: alike", 3, []int{10, 20, 30, 0}, []int{0, 20, 30}},
		{"below the least by one", 3, []int{10, 11, 12, 9}, []int{9, 11, 12}},
		{"one may be: above", 1, []int{5, 6, 7, top}, []int{5}},
		{"one may be: below", 1, []int{5, 4, 2, 0}, []int{0}},
		{"one may be: above and below", 1, []int{5, 9, 3, 4, 5, 2, 3}, []int{2}},
		{"two may be: above", 2, []int{0, 1, 2, top}, []int{0, top}},
		{"two may be: between", 2, []int{0, 100, 50, 1}, []int{0, 1}},
		{"two may be: below", 2, []int{5, 9, 7, 3}, []int{3, 7}},
		{"two may be: below, another", 2, []int{5, 6, 1}, []int{1, 5}},
		{"the greatest: side by side", 3, []int{0, 1, top, top - 1}, []int{0, top - 1, top}},
		{"the greatest: between", 3, []int{0, top - 1, top, top / 2}, []int{0, top / 2, top - 1}},
		{"the greatest: as far as can be", 2, []int{0, top, 1}, []int{0, 1}},
		{"the greatest: as far as can be, and not", 3, []int{1, top, 0, top - 1}, []int{0, top - 1, top}},
		{"the greatest: halves", 3, []int{0, top / 2, top - 1, top}, []int{0, top - 1, top}},
		{"the greatest: halves, the upper nearer", 3, []int{0, top/2 + 1, top - 1, top}, []int{0, top/2 + 1, top}},
		{"far, but not in 32 bits", 3, []int{0, 1 << 32, 1<<32 + 7, 1 << 33}, []int{0, 1 << 32, 1 << 33}},
		{"far, but below 0 in 32 bits", 3, []int{0, 1 << 31, 1<<31 + 7, 1 << 33}, []int{0, 1 << 31, 1 << 33}},
	} {
		s := New(x.most)
		for i, pos := range x.puts {
			mustPut(t, s, pos, said(pos, i))
		}
		expectAll(t, x.what, s, x.want...)
		for _, pos := range x.want {
			expectFloor(t, s, pos, pos, string(said(pos, lastOf(x.puts, pos))))
		}
	}
}

// lastOf tells where one stands last in a list.
func lastOf(l []int, x int) int {
	at := -1
	for i, y := range l {
		if x == y {
			at = i
		}
	}
	return at
}

// P11.1: one that went may come again, with what is put then.
func TestComesAgain(t *testing.T) {
	s := fed(t, 3, 0, 10, 20, 30)
	expectFloor(t, s, 10, 0, "0")
	mustPut(t, s, 10, []byte("again"))
	expectAll(t, "10 again", s, 0, 10, 30)
	expectFloor(t, s, 10, 10, "again")
	expectFloor(t, s, 29, 10, "again")
	s = fed(t, 1, 5, 7, 3)
	for range 3 {
		mustPut(t, s, 7, []byte("no"))
		expectAll(t, "7 goes each time", s, 3)
		expectFloor(t, s, 7, 3, "3")
	}
}

// P11.2
func TestFloor(t *testing.T) {
	s := fed(t, 5, 30, 4, 100, 7, 5)
	for pos := -5; pos < 130; pos++ {
		want := -1
		for _, p := range []int{4, 5, 7, 30, 100} {
			if p <= pos {
				want = p
			}
		}
		if want < 0 {
			expectNoFloor(t, s, pos)
		} else {
			expectFloor(t, s, pos, want, fmt.Sprint(want))
		}
	}
	expectNoFloor(t, s, math.MinInt)
	expectFloor(t, s, math.MaxInt, 100, "100")
	expectAll(t, "Floor changes nothing", s, 4, 5, 7, 30, 100)
}

func TestFloorOfTheGreatest(t *testing.T) {
	const top = math.MaxInt
	s := fed(t, 3, top, 0, top-2)
	expectAll(t, "rising", s, 0, top-2, top)
	expectFloor(t, s, top, top, fmt.Sprint(top))
	expectFloor(t, s, top-1, top-2, fmt.Sprint(top-2))
	expectFloor(t, s, top-2, top-2, fmt.Sprint(top-2))
	expectFloor(t, s, top-3, 0, "0")
	expectFloor(t, s, 0, 0, "0")
	expectNoFloor(t, s, -1)
	expectNoFloor(t, s, math.MinInt)
}

// P11.2: bytes of which there are none are there all the same.
func TestFloorOfNoBytes(t *testing.T) {
	s := New(3)
	mustPut(t, s, 0, []byte{})
	mustPut(t, s, 3, nil)
	mustPut(t, s, 6, []byte{0})
	for pos, want := range []int{0, 0, 0, 3, 3, 3, 6, 6} {
		b := ""
		if want == 6 {
			b = "\x00"
		}
		expectFloor(t, s, pos, want, b)
	}
}

// P11.2: all bytes, and many of them, are told as they were put.
func TestBytesAsTheyWere(t *testing.T) {
	s := New(64)
	for n := range 64 {
		b := make([]byte, n*n*n)
		for i := range b {
			b[i] = byte(i*7 + n)
		}
		mustPut(t, s, n, b)
	}
	for n := range 64 {
		_, b, _ := s.Floor(n)
		expect(t, "how many", len(b), n*n*n)
		for i := range b {
			if b[i] != byte(i*7+n) {
				t.Fatalf("the byte %d at %d: %d", i, n, b[i])
			}
		}
	}
}

// P11.2: a store that has none.
func TestNoneThere(t *testing.T) {
	for _, most := range []int{-1, 0, 1, 2, 64, 65} {
		s := New(most)
		for range 2 {
			expect(t, "All of none", len(s.All()), 0)
			for _, pos := range []int{math.MinInt, -1, 0, 1, 64, math.MaxInt} {
				expectNoFloor(t, s, pos)
			}
		}
		mustPut(t, s, 0, []byte("a"))
		expectAll(t, "one", s, 0)
	}
}

// Each call of no store, and of one that New did not make.
func TestNoStore(t *testing.T) {
	var none *Store
	for _, s := range []*Store{none, {}, new(Store)} {
		for range 2 {
			for _, pos := range []int{math.MinInt, -1, 0, 1, 5, math.MaxInt} {
				for _, b := range [][]byte{nil, {}, []byte("a")} {
					expect(t, fmt.Sprintf("Put(%d)", pos), s.Put(pos, b), api.ErrNil)
				}
				expectNoFloor(t, s, pos)
			}
			expect(t, "All", len(s.All()), 0)
		}
	}
}

// P11.5: what is there behind each, where positions come as 0, 1, 2, ..
func TestSpreadWrittenOut(t *testing.T) {
	for most, want := range map[int][][]int{
		1: {{0}, {0}, {0}, {0}, {0}},
		2: {{0}, {0, 1}, {0, 2}, {0, 3}, {0, 4}, {0, 5}, {0, 6}},
		3: {{0}, {0, 1}, {0, 1, 2}, {0, 2, 3}, {0, 2, 4}, {0, 4, 5}, {0, 4, 6}, {0, 4, 7}, {0, 4, 8}, {0, 8, 9}, {0, 8, 10}},
		4: {
			{0}, {0, 1}, {0, 1, 2}, {0, 1, 2, 3}, {0, 2, 3, 4}, {0, 2, 4, 5}, {0, 2, 4, 6}, {0, 4, 6, 7}, {0, 4, 6, 8},
			{0, 4, 8, 9}, {0, 4, 8, 10}, {0, 4, 8, 11}, {0, 4, 8, 12}, {0, 8, 12, 13},
		},
	} {
		s := New(most)
		for i, l := range want {
			mustPut(t, s, i, said(i, most))
			expectAll(t, fmt.Sprintf("New(%d), behind %d", most, i), s, l...)
			expectFloor(t, s, i, l[len(l)-1], string(said(l[len(l)-1], most)))
		}
	}
}

// P11.5: the first, the last, and others between, as many as may be; of one that may be there is the first alone.
func TestSpread(t *testing.T) {
	for most := 1; most <= 64; most++ {
		s, m := New(most), newModel(most)
		for i := range 300 {
			mustPut(t, s, i, said(i, most))
			m.put(i, said(i, most))
			what := fmt.Sprintf("New(%d), behind %d", most, i)
			expectSame(t, what, s, m, i)
			all := s.All()
			expect(t, what+": how many", len(all), min(most, i+1))
			expect(t, what+": the first", all[0], 0)
			if most > 1 {
				expect(t, what+": the last", all[len(all)-1], i)
			}
		}
	}
}
