package store

import (
	"fmt"
	"slices"
	"strings"
	"testing"

	"hindcast/api"
)

func expect[T comparable](t *testing.T, what string, got, want T) {
	t.Helper()
	if got != want {
		t.Errorf("%.300s: %.300v, not %.300v", what, got, want)
	}
}

// said tells bytes that no other call of this test puts: a position, and which time it is.
func said(pos, time int) []byte { return fmt.Appendf(nil, "%d, %d", pos, time) }

func mustPut(t *testing.T, s *Store, pos int, b []byte) {
	t.Helper()
	if err := s.Put(pos, b); err != api.OK {
		t.Fatalf("Put(%d, %d bytes): %d", pos, len(b), err)
	}
}

// fed tells a store into which positions were put, in this order, each with its own number as a text.
func fed(t *testing.T, most int, l ...int) *Store {
	t.Helper()
	s := New(most)
	for _, pos := range l {
		mustPut(t, s, pos, fmt.Append(nil, pos))
	}
	return s
}

func expectAll(t *testing.T, what string, s *Store, want ...int) {
	t.Helper()
	if got := s.All(); !slices.Equal(got, want) {
		t.Errorf("%.300s: All: %v, not %v", what, got, want)
	}
}

func expectFloor(t *testing.T, s *Store, pos, want int, b string) {
	t.Helper()
	got, x, is := s.Floor(pos)
	if got != want || string(x) != b || !is {
		t.Errorf("Floor(%d): %d, %.100q, %v, not %d, %.100q, true", pos, got, x, is, want, b)
	}
}

func expectNoFloor(t *testing.T, s *Store, pos int) {
	t.Helper()
	if got, x, is := s.Floor(pos); got != 0 || len(x) != 0 || is {
		t.Errorf("Floor(%d): %d, %.100q, %v, not 0, nothing, false", pos, got, x, is)
	}
}

// told tells all that a store answers, as a text: its positions, and what is at each.
func told(s *Store) string {
	var b strings.Builder
	for _, pos := range s.All() {
		at, x, is := s.Floor(pos)
		fmt.Fprintf(&b, "%d: %d %q %v; ", pos, at, x, is)
	}
	return b.String()
}

// model is a store by the chapter's words: bytes in a map, through which all is looked for anew each time.
type model struct {
	most int
	at   map[int]string
}

func newModel(most int) *model {
	m := &model{most: most, at: map[int]string{}}
	if most < 1 {
		m.most = 1
	}
	if most > 64 {
		m.most = 64
	}
	return m
}

// below tells the greatest position that is below one.
func (m *model) below(pos int) (int, bool) {
	best, is := 0, false
	for p := range m.at {
		if p < pos && (!is || p > best) {
			best, is = p, true
		}
	}
	return best, is
}

// goes tells which of the positions goes, behind one that was put.
func (m *model) goes(pos int) int {
	type far struct{ distance, pos int }
	var l []far
	for p := range m.at {
		if next, is := m.below(p); is && p != pos {
			l = append(l, far{p - next, p})
		}
	}
	if len(l) == 0 {
		return pos
	}
	slices.SortFunc(l, func(a, b far) int {
		if a.distance != b.distance {
			return compare(a.distance, b.distance)
		}
		return compare(a.pos, b.pos)
	})
	return l[0].pos
}

func compare(a, b int) int {
	switch {
	case a < b:
		return -1
	case a > b:
		return 1
	}
	return 0
}

func (m *model) put(pos int, b []byte) api.Errno {
	if pos < 0 {
		return api.ErrArg
	}
	m.at[pos] = string(b)
	if len(m.at) > m.most {
		delete(m.at, m.goes(pos))
	}
	return api.OK
}

func (m *model) floor(pos int) (int, string, bool) {
	if b, is := m.at[pos]; is {
		return pos, b, true
	}
	p, is := m.below(pos)
	if !is {
		return 0, "", false
	}
	return p, m.at[p], true
}

func (m *model) all() []int {
	var l []int
	for p := range m.at {
		l = append(l, p)
	}
	slices.Sort(l)
	return l
}

// expectSame holds a store against the model of it, at each position, one below and one above it, and at others.
func expectSame(t *testing.T, what string, s *Store, m *model, others ...int) {
	t.Helper()
	all := m.all()
	if got := s.All(); !slices.Equal(got, all) {
		t.Fatalf("%.300s: All: %v, not %v", what, got, all)
	}
	for _, p := range append(slices.Clone(all), others...) {
		for _, pos := range []int{p - 1, p, p + 1} {
			at, b, is := s.Floor(pos)
			wantAt, want, wantIs := m.floor(pos)
			if at != wantAt || string(b) != want || is != wantIs {
				t.Fatalf("%.300s: Floor(%d): %d, %.100q, %v, not %d, %.100q, %v", what, pos, at, b, is, wantAt, want, wantIs)
			}
		}
	}
}
