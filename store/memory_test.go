package store

import (
	"slices"
	"testing"

	"hindcast/api"
)

func fill(b []byte) {
	for i := range b {
		b[i] = '!'
	}
}

// What is handed in is neither changed nor kept, and what stands behind its end neither.
func TestHandedIn(t *testing.T) {
	s := New(2)
	for time := range 3 {
		for _, pos := range []int{5, 9, 7, 5, 7, 3} {
			room := []byte("abcdef")
			b := room[1:3]
			mustPut(t, s, pos, b)
			expect(t, "what was handed in, and what stands around it", string(room), "abcdef")
			fill(room)
			if at, x, _ := s.Floor(pos); at == pos {
				expect(t, "what is told behind a change", string(x), "bc")
			}
			mustPut(t, s, 5, said(5, time))
			expect(t, "what was handed in, behind another Put", string(room), "!!!!!!")
		}
	}
	b := []byte("ab")
	expect(t, "Put that is refused", s.Put(-1, b), api.ErrArg)
	expect(t, "what was handed in", string(b), "ab")
}

// One list that is handed in twice is at each position by itself.
func TestHandedInTwice(t *testing.T) {
	s, other := New(3), New(3)
	b := []byte("ab")
	mustPut(t, s, 1, b)
	mustPut(t, s, 2, b)
	mustPut(t, other, 1, b)
	b[0] = 'x'
	mustPut(t, s, 2, b)
	expectFloor(t, s, 1, 1, "ab")
	expectFloor(t, s, 2, 2, "xb")
	expectFloor(t, other, 1, 1, "ab")
}

// What Floor tells may be changed, with what stands behind its end, and stays as it was told.
func TestFloorsOwn(t *testing.T) {
	s := fed(t, 3, 1, 22, 333)
	was := told(s)
	for _, pos := range []int{1, 22, 333} {
		_, x, _ := s.Floor(pos)
		_, y, _ := s.Floor(pos)
		keep := string(y)
		fill(x[:cap(x)])
		expect(t, "another answer", string(y), keep)
		_ = append(x, "more"...)
		expect(t, "what is told behind a change", told(s), was)
	}
	_, x, _ := s.Floor(22)
	mustPut(t, s, 22, []byte("zz"))
	expect(t, "an answer behind a Put", string(x), "22")
	for i := range 40 {
		mustPut(t, s, i, said(i, i))
	}
	expect(t, "an answer behind many", string(x), "22")
}

// What All tells may be changed, with what stands behind its end, and stays as it was told.
func TestAllsOwn(t *testing.T) {
	s := fed(t, 4, 1, 22, 333)
	l, other := s.All(), s.All()
	for i := range l[:cap(l)] {
		l[:cap(l)][i] = -7
	}
	_ = append(l, 8, 9)
	expectAll(t, "behind a change", s, 1, 22, 333)
	mustPut(t, s, 5, nil)
	mustPut(t, s, 0, nil)
	if !slices.Equal(other, []int{1, 22, 333}) {
		t.Errorf("another answer: %v", other)
	}
}

// What is done to one store is not done to another.
func TestStoresApart(t *testing.T) {
	a, b := New(2), New(3)
	for i, pos := range []int{4, 2, 8, 6, 0} {
		mustPut(t, a, pos, said(pos, i))
		mustPut(t, b, pos, said(-pos, i))
	}
	expect(t, "one", told(a), `0: 0 "0, 4" true; 6: 6 "6, 3" true; `)
	expect(t, "the other", told(b), `0: 0 "0, 4" true; 6: 6 "-6, 3" true; 8: 8 "-8, 2" true; `)
}

// What is told by Floor and All changes nothing: a store that is never asked comes to the same.
func TestAskedOrNot(t *testing.T) {
	for most := range 6 {
		asked, quiet := New(most), New(most)
		for i, pos := range []int{9, 3, 3, 27, 1, 40, 0, 14, 22, 2, 27, 41} {
			for p := range 50 {
				asked.Floor(p)
			}
			asked.All()
			asked.Put(-1, nil)
			mustPut(t, asked, pos, said(pos, i))
			mustPut(t, quiet, pos, said(pos, i))
		}
		expect(t, "told", told(asked), told(quiet))
	}
}
