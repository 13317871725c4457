package snap

import (
	"encoding/binary"
	"reflect"
	"regexp"
	"slices"
	"strings"
	"testing"

	"hindcast/api"
	"hindcast/wire"
)

func expect[T comparable](t *testing.T, what string, got, want T) {
	t.Helper()
	if got != want {
		t.Errorf("%.300s: %v, not %v", what, got, want)
	}
}

var none api.Val

func num(n int) api.Val    { return api.Val{Kind: api.VInt, N: n} }
func truth(n int) api.Val  { return api.Val{Kind: api.VBool, N: n} }
func txt(s string) api.Val { return api.Val{Kind: api.VStr, S: s} }
func ref(n int) api.Val    { return api.Val{Kind: api.VRef, N: n} }

func vals(l ...api.Val) []api.Val { return l }

func obj(tag string, cells ...api.Val) api.Obj { return api.Obj{Tag: tag, Cells: cells} }

// full tells a state with something of everything.
func full() api.State {
	return api.State{
		Pos: 300, Status: api.Faulty, Fault: api.FaultOut, Read: 70, Out: "a\n\x00\xff",
		Calls: []api.Called{
			{Unit: 0, At: 4, Mark: -1, Slots: vals(none, num(-1), txt("b\"\n")), Stack: vals(txt(""), ref(0))},
			{Unit: 2, At: 100, Mark: 99, Slots: vals(ref(2)), Stack: vals(none, truth(0), num(1<<40))},
			{Unit: 1},
		},
		Heap: []api.Obj{obj("P", truth(1), ref(2), txt("x")), obj(""), obj("", ref(1), num(7))},
	}
}

// biggest tells a state of which there may be no more of anything that has a limit.
func biggest() api.State {
	long := txt(strings.Repeat("~", 255))
	call := api.Called{Unit: 1<<63 - 1, At: 1<<63 - 1, Mark: 1<<63 - 1, Slots: slices.Repeat(vals(long), 32), Stack: slices.Repeat(vals(long), 256)}
	return cloned(api.State{
		Pos: 1<<63 - 1, Status: api.Faulty, Fault: api.FaultKind, Read: 1<<63 - 1, Out: strings.Repeat("\xff", 4096),
		Calls: slices.Repeat([]api.Called{call}, 64),
		Heap:  slices.Repeat([]api.Obj{obj(strings.Repeat("a", 20), long)}, 2048),
	})
}

// cloned tells a state that shares no list with another.
func cloned(s api.State) api.State {
	s.Calls, s.Heap = slices.Clone(s.Calls), slices.Clone(s.Heap)
	for i := range s.Calls {
		s.Calls[i].Slots, s.Calls[i].Stack = slices.Clone(s.Calls[i].Slots), slices.Clone(s.Calls[i].Stack)
	}
	for i := range s.Heap {
		s.Heap[i].Cells = slices.Clone(s.Heap[i].Cells)
	}
	return s
}

// changed tells a state with something done to it.
func changed(s api.State, do func(s *api.State)) api.State {
	s = cloned(s)
	do(&s)
	return s
}

// same tells whether two states are the same, nil and the empty list being so.
func same(a, b api.State) bool { return reflect.DeepEqual(plain(a), plain(b)) }

func plain(s api.State) api.State {
	s = cloned(s)
	s.Calls, s.Heap = nilled(s.Calls), nilled(s.Heap)
	for i := range s.Calls {
		s.Calls[i].Slots, s.Calls[i].Stack = nilled(s.Calls[i].Slots), nilled(s.Calls[i].Stack)
	}
	for i := range s.Heap {
		s.Heap[i].Cells = nilled(s.Heap[i].Cells)
	}
	return s
}

func nilled[T any](l []T) []T {
	if len(l) == 0 {
		return nil
	}
	return l
}

// expectState holds all that is told of a state, and of its bytes, against the chapter's words.
func expectState(t *testing.T, what string, s api.State, is bool) {
	t.Helper()
	was := cloned(s)
	if mayBeToldByWords(s) != is {
		t.Fatalf("%s: the chapter's words say otherwise: the test is wrong", what)
	}
	b, err := Bytes(s)
	if is {
		expect(t, what+": Check", Check(s), api.OK)
		if err != api.OK || string(b) != string(bytesOf(pieces(s))) {
			t.Errorf("%s: Bytes: %.200x, %d, not %.200x", what, b, err, bytesOf(pieces(s)))
		}
		if back, err := Load(b); err != api.OK || !same(back, s) {
			t.Errorf("%s: Load of Bytes: %.300v, %d, not %.300v", what, back, err, s)
		}
	} else {
		expect(t, what+": Check", Check(s), api.ErrArg)
		if len(b) != 0 || err != api.ErrArg {
			t.Errorf("%s: Bytes: %.200x, %d", what, b, err)
		}
		expectLoad(t, what, bytesOf(pieces(s)))
	}
	if !reflect.DeepEqual(s, was) {
		t.Errorf("%s: what was handed in is changed", what)
	}
}

// expectLoad holds what bytes are read as against the chapter's words, and, if it is a state, the bytes of that against those.
func expectLoad(t *testing.T, what string, b []byte) api.Errno {
	t.Helper()
	given := slices.Clone(b)
	want, wanted := loadByWords(b)
	got, err := Load(b)
	if err != wanted || !same(got, want) {
		t.Errorf("%s: Load of %.100x: %.200v, %d, not %.200v, %d", what, b, got, err, want, wanted)
	}
	if err != api.OK && !reflect.DeepEqual(got, api.State{}) {
		t.Errorf("%s: Load: something beside an error: %.200v", what, got)
	}
	if back, e := Bytes(got); err == api.OK && (e != api.OK || !slices.Equal(back, b)) {
		t.Errorf("%s: %.100x is put as %.100x, %d", what, b, back, e)
	}
	if !slices.Equal(b, given) {
		t.Errorf("%s: Load: what was handed in is changed", what)
	}
	return err
}

// expectNoLoad is for bytes of which the test says itself what is wrong.
func expectNoLoad(t *testing.T, what string, b []byte, want api.Errno) {
	t.Helper()
	expect(t, what+": Load's error", expectLoad(t, what, b), want)
}

// What follows tells the same as the program, by the chapters' words, another way.

var (
	textForm = regexp.MustCompile(`\A(?:\n|[ -~]){0,255}\z`)
	nameForm = regexp.MustCompile(`\A[A-Za-z_][A-Za-z0-9_]{0,19}\z`)
	wordForm = regexp.MustCompile(`\A(?:fn|record|let|if|else|while|return|new|true|false)\z`)
)

func mayBeToldByWords(s api.State) bool {
	switch {
	case s.Pos < 0, s.Read < 0, s.Status < 0, s.Status > 2, s.Fault < 0, s.Fault > 10, len(s.Calls) > 64, len(s.Out) > 4096:
		return false
	}
	for _, c := range s.Calls {
		if c.Unit < 0 || c.At < 0 || c.Mark < -1 || len(c.Slots) > 32 || len(c.Stack) > 256 {
			return false
		}
		for _, v := range slices.Concat(c.Slots, c.Stack) {
			if !rightByWords(v, len(s.Heap)) {
				return false
			}
		}
	}
	used := len(s.Heap)
	for _, o := range s.Heap {
		used += len(o.Cells)
		if o.Tag != "" && (!nameForm.MatchString(o.Tag) || wordForm.MatchString(o.Tag)) {
			return false
		}
		for _, v := range o.Cells {
			if v.Kind == 0 || !rightByWords(v, len(s.Heap)) {
				return false
			}
		}
	}
	return used <= 4096
}

func rightByWords(v api.Val, objects int) bool {
	return slices.Contains([]bool{
		v == api.Val{},
		v == api.Val{Kind: 1, N: v.N},
		v == api.Val{Kind: 2} || v == api.Val{Kind: 2, N: 1},
		v == api.Val{Kind: 3, S: v.S} && textForm.MatchString(v.S),
		v == api.Val{Kind: 4, N: v.N} && v.N >= 0 && v.N < objects,
	}, true)
}

// piece is something that stands in a state's bytes: a count, a number, a kind, a text, or the output.
type piece struct {
	what string
	n    int
	s    string
}

func (p piece) isText() bool { return p.what == "text" || p.what == "output" }

// bytes tells a piece's bytes by the library's numbers, which are those of chapter 1.
func (p piece) bytes() []byte {
	if p.isText() {
		return append(numberBytes(len(p.s)), p.s...)
	}
	return numberBytes(p.n)
}

func numberBytes(n int) []byte { return binary.AppendVarint(nil, int64(n)) }

func bytesOf(l []piece) []byte {
	var b []byte
	for _, p := range l {
		b = append(b, p.bytes()...)
	}
	return b
}

// pieces tells what stands in a state's bytes, in the chapter's order.
func pieces(s api.State) []piece {
	var l []piece
	values := func(all []api.Val) {
		l = append(l, piece{"count", len(all), ""})
		for _, v := range all {
			l = append(l, piece{"kind", int(v.Kind), ""})
			if v.Kind == 3 {
				l = append(l, piece{"text", 0, v.S})
			} else if v.Kind == 1 || v.Kind == 2 || v.Kind == 4 {
				l = append(l, piece{"number", v.N, ""})
			}
		}
	}
	for _, n := range []int{s.Pos, int(s.Status), int(s.Fault), s.Read} {
		l = append(l, piece{"number", n, ""})
	}
	l = append(l, piece{"output", 0, s.Out}, piece{"count", len(s.Calls), ""})
	for _, c := range s.Calls {
		l = append(l, piece{"number", c.Unit, ""}, piece{"number", c.At, ""}, piece{"number", c.Mark, ""})
		values(c.Slots)
		values(c.Stack)
	}
	l = append(l, piece{"count", len(s.Heap), ""})
	for _, o := range s.Heap {
		l = append(l, piece{"text", 0, o.Tag})
		values(o.Cells)
	}
	return l
}

// loadByWords reads in the chapter's order, and gives up where wire goes wrong.
func loadByWords(b []byte) (s api.State, err api.Errno) {
	r := wire.NewReader(b)
	defer func() {
		if x, is := recover().(api.Errno); is {
			s, err = api.State{}, x
		}
	}()
	demand := func() {
		if r.Err() != api.OK {
			panic(r.Err())
		}
	}
	number := func() int { n := r.Int(); demand(); return n }
	count := func() int { n := r.Count(1 << 20); demand(); return n }
	text := func(most int) string { s := r.Text(most); demand(); return s }
	values := func() []api.Val {
		var l []api.Val
		for range count() {
			v := api.Val{Kind: api.ValKind(number())}
			if v.Kind == 3 {
				v.S = text(255)
			} else if v.Kind == 1 || v.Kind == 2 || v.Kind == 4 {
				v.N = number()
			}
			l = append(l, v)
		}
		return l
	}
	s.Pos = number()
	s.Status = api.Status(number())
	s.Fault = api.Fault(number())
	s.Read = number()
	s.Out = text(4096)
	for range count() {
		c := api.Called{}
		for _, to := range []*int{&c.Unit, &c.At, &c.Mark} {
			*to = number()
		}
		c.Slots = values()
		c.Stack = values()
		s.Calls = append(s.Calls, c)
	}
	for range count() {
		o := api.Obj{Tag: text(255)}
		o.Cells = values()
		s.Heap = append(s.Heap, o)
	}
	if r.At() < len(b) {
		return api.State{}, api.ErrBig
	}
	if !mayBeToldByWords(s) {
		return api.State{}, api.ErrArg
	}
	return s, api.OK
}
