package code

import (
	"encoding/binary"
	"fmt"
	"reflect"
	"regexp"
	"slices"
	"strconv"
	"strings"
	"testing"

	"hindcast/api"
	"hindcast/wire"
)

func expect[T comparable](t *testing.T, what string, got, want T) {
	t.Helper()
	if got != want {
		t.Errorf("%.300s: %v, not %v", what, got, want)
	}
}

// opNames are as chapter 7 lists them.
var opNames = strings.Fields("mark int bool str load store pop add sub mul div rem neg not eq ne lt le gt ge jump unless call return array new index setindex field setfield len show fill input print")

func opOf(name string) api.Op {
	n := slices.Index(opNames, name)
	if n < 0 {
		panic("no op: " + name)
	}
	return api.Op(n)
}

// asm tells the instructions of a text: op names, each with its A behind it, unless that is 0, parted by semicolons.
func asm(s string) []api.Ins {
	var l []api.Ins
	for _, part := range strings.Split(s, ";") {
		words := strings.Fields(part)
		if len(words) == 0 {
			continue
		}
		i := api.Ins{Op: opOf(words[0])}
		if len(words) > 1 {
			i.A, _ = strconv.Atoi(words[1])
		}
		l = append(l, i)
	}
	return l
}

// times tells a text of so many times an instruction.
func times(n int, s string) string { return strings.Repeat(s+";", n) }

// some tells a code with two texts, two shapes, and three units: main, with three slots and a stack of four, whose instructions are handed in; two, with two parameters and a result; one, with one parameter and no result.
func some(main string) api.Code {
	return api.Code{
		Strs:   []string{"a", "b\n"},
		Shapes: []api.Shape{{Name: "P", Fields: []string{"x"}}, {Name: "Q", Fields: []string{"a", "b"}}},
		Units: []api.Unit{
			{Name: "main", Slots: 3, Stack: 4, Ins: asm(main)},
			{Name: "two", Params: 2, Slots: 2, Stack: 2, Result: true, Ins: asm("mark 7; load 0; return 1")},
			{Name: "one", Params: 1, Slots: 4, Stack: 0, Ins: asm("mark 9; return 0")},
		},
	}
}

// changed tells a code with something done to it.
func changed(c api.Code, do func(c *api.Code)) api.Code {
	c = clone(c)
	do(&c)
	return c
}

// clone tells a code that shares no list with another.
func clone(c api.Code) api.Code {
	c.Strs, c.Shapes, c.Units = slices.Clone(c.Strs), slices.Clone(c.Shapes), slices.Clone(c.Units)
	for i := range c.Shapes {
		c.Shapes[i].Fields = slices.Clone(c.Shapes[i].Fields)
	}
	for i := range c.Units {
		c.Units[i].Ins, c.Units[i].Vars = slices.Clone(c.Units[i].Ins), slices.Clone(c.Units[i].Vars)
	}
	return c
}

// same tells whether two codes are the same, nil and the empty list being so.
func same(a, b api.Code) bool { return reflect.DeepEqual(plain(a), plain(b)) }

func plain(c api.Code) api.Code {
	c = clone(c)
	c.Strs, c.Shapes, c.Units = nilled(c.Strs), nilled(c.Shapes), nilled(c.Units)
	for i := range c.Shapes {
		c.Shapes[i].Fields = nilled(c.Shapes[i].Fields)
	}
	for i := range c.Units {
		c.Units[i].Ins, c.Units[i].Vars = nilled(c.Units[i].Ins), nilled(c.Units[i].Vars)
	}
	return c
}

func nilled[T any](l []T) []T {
	if len(l) == 0 {
		return nil
	}
	return l
}

// expectRight holds all that is told of a right code against the chapter's words.
func expectRight(t *testing.T, what string, c api.Code) {
	t.Helper()
	was := clone(c)
	if !rightByWords(c) {
		t.Fatalf("%s: not right by the chapter's words: the test is wrong", what)
	}
	expect(t, what+": Check", Check(c), api.OK)
	for n, u := range c.Units {
		want, _ := heightsByWords(c, u)
		got, err := Heights(c, n)
		if err != api.OK || !slices.Equal(got, want) {
			t.Errorf("%s: Heights of %d: %v, %d, not %v", what, n, got, err, want)
		}
	}
	b, err := Bytes(c)
	if err != api.OK || string(b) != string(bytesOf(pieces(c))) {
		t.Errorf("%s: Bytes: %.200x, %d, not %.200x", what, b, err, bytesOf(pieces(c)))
	}
	if back, err := Load(b); err != api.OK || !same(back, c) {
		t.Errorf("%s: Load of Bytes: %.300v, %d, not %.300v", what, back, err, c)
	}
	if l, err := List(c); err != api.OK || !slices.Equal(l, listByWords(c)) {
		t.Errorf("%s: List: %.300q, %d, not %.300q", what, l, err, listByWords(c))
	}
	if !reflect.DeepEqual(c, was) {
		t.Errorf("%s: what was handed in is changed", what)
	}
}

// expectWrong holds all that is told of a code that is not right against the chapter's words.
func expectWrong(t *testing.T, what string, c api.Code) {
	t.Helper()
	was := clone(c)
	if rightByWords(c) {
		t.Fatalf("%s: right by the chapter's words: the test is wrong", what)
	}
	expect(t, what+": Check", Check(c), api.ErrArg)
	for _, n := range []int{-1, 0, len(c.Units) - 1, len(c.Units)} {
		if l, err := Heights(c, n); len(l) != 0 || err != api.ErrArg {
			t.Errorf("%s: Heights of %d: %v, %d", what, n, l, err)
		}
	}
	if b, err := Bytes(c); len(b) != 0 || err != api.ErrArg {
		t.Errorf("%s: Bytes: %.200x, %d", what, b, err)
	}
	if l, err := List(c); len(l) != 0 || err != api.ErrArg {
		t.Errorf("%s: List: %.200q, %d", what, l, err)
	}
	expectNoLoad(t, what, bytesOf(pieces(c)), loadError(bytesOf(pieces(c))))
	if !reflect.DeepEqual(c, was) {
		t.Errorf("%s: what was handed in is changed", what)
	}
}

func expectNoLoad(t *testing.T, what string, b []byte, want api.Errno) {
	t.Helper()
	c, err := Load(b)
	if err != want || want == api.OK {
		t.Errorf("%s: Load of %.100x: %d, not %d", what, b, err, want)
	}
	if err != api.OK && !reflect.DeepEqual(c, api.Code{}) {
		t.Errorf("%s: Load: something beside an error: %.200v", what, c)
	}
}

// What follows tells the same as the program, by the chapter's words, another way.

var (
	textForm = regexp.MustCompile(`\A(?:\n|[ -~]){0,255}\z`)
	nameForm = regexp.MustCompile(`\A[A-Za-z_][A-Za-z0-9_]{0,19}\z`)
	wordForm = regexp.MustCompile(`\A(?:fn|record|let|if|else|while|return|new|true|false)\z`)
)

// namesByWords tells whether all are names, and each stands there once.
func namesByWords(l []string) bool {
	for _, s := range l {
		if !nameForm.MatchString(s) || wordForm.MatchString(s) {
			return false
		}
	}
	sorted := slices.Sorted(slices.Values(l))
	return len(slices.Compact(sorted)) == len(l)
}

func rightByWords(c api.Code) bool {
	for _, s := range c.Strs {
		if !textForm.MatchString(s) {
			return false
		}
	}
	var shapes, units []string
	for _, s := range c.Shapes {
		shapes = append(shapes, s.Name)
		if len(s.Fields) == 0 || len(s.Fields) > 8 || !namesByWords(s.Fields) {
			return false
		}
	}
	for _, u := range c.Units {
		units = append(units, u.Name)
	}
	if len(c.Strs) > 1024 || len(shapes) > 16 || !namesByWords(shapes) || len(units) < 1 || len(units) > 32 || !namesByWords(units) {
		return false
	}
	if c.Main < 0 || c.Main >= len(units) || c.Units[c.Main].Params != 0 || c.Units[c.Main].Result {
		return false
	}
	for _, u := range c.Units {
		if !unitByWords(c, u) {
			return false
		}
	}
	for _, u := range c.Units {
		if _, ok := heightsByWords(c, u); !ok {
			return false
		}
	}
	return true
}

func unitByWords(c api.Code, u api.Unit) bool {
	if u.Params < 0 || u.Params > 8 || u.Slots < u.Params || u.Slots > 32 || u.Stack < 0 || u.Stack > 256 || len(u.Ins) == 0 || len(u.Ins) > 4096 {
		return false
	}
	for _, v := range u.Vars {
		if !namesByWords([]string{v.Name}) || v.Slot < 0 || v.Slot >= u.Slots || v.From < 0 || v.From > v.To || v.To > len(u.Ins) {
			return false
		}
	}
	for _, i := range u.Ins {
		if !insByWords(c, u, i) {
			return false
		}
	}
	return true
}

func insByWords(c api.Code, u api.Unit, i api.Ins) bool {
	number := func(of int) bool { return i.A >= 0 && i.A < of }
	switch i.Op {
	case api.OpMark, api.OpInt:
		return true
	case api.OpBool:
		return number(2)
	case api.OpStr, api.OpField, api.OpSetField:
		return number(len(c.Strs))
	case api.OpLoad, api.OpStore:
		return number(u.Slots)
	case api.OpJump, api.OpUnless:
		return number(len(u.Ins))
	case api.OpCall:
		return number(len(c.Units))
	case api.OpNew:
		return number(len(c.Shapes))
	case api.OpReturn:
		return u.Result && i.A == 1 || !u.Result && i.A == 0
	case api.OpArray, api.OpPrint:
		return i.A > 0 && number(257)
	}
	return i.Op >= 0 && i.Op <= api.OpPrint && i.A == 0
}

func effectByWords(c api.Code, i api.Ins) (takes, puts int) {
	switch i.Op {
	case api.OpMark, api.OpJump:
		return 0, 0
	case api.OpInt, api.OpBool, api.OpStr, api.OpLoad, api.OpInput:
		return 0, 1
	case api.OpStore, api.OpPop, api.OpUnless:
		return 1, 0
	case api.OpAdd, api.OpSub, api.OpMul, api.OpDiv, api.OpRem, api.OpEq, api.OpNe, api.OpLt, api.OpLe, api.OpGt, api.OpGe, api.OpIndex, api.OpFill:
		return 2, 1
	case api.OpNeg, api.OpNot, api.OpField, api.OpLen, api.OpShow:
		return 1, 1
	case api.OpReturn, api.OpPrint:
		return i.A, 0
	case api.OpArray:
		return i.A, 1
	case api.OpNew:
		return len(c.Shapes[i.A].Fields), 1
	case api.OpSetIndex:
		return 3, 0
	case api.OpSetField:
		return 2, 0
	case api.OpCall:
		if c.Units[i.A].Result {
			puts = 1
		}
		return c.Units[i.A].Params, puts
	}
	panic("no op")
}

// place is an instruction and a height at which it is reached.
type place struct{ at, height int }

// heightsByWords gathers all places that are reached, also several of one instruction, and asks of all of them whether they may be.
func heightsByWords(c api.Code, u api.Unit) ([]int, bool) {
	l := []place{{0, 0}}
	known := map[place]bool{l[0]: true}
	for k := 0; k < len(l); k++ {
		at, height := l[k].at, l[k].height
		i := u.Ins[at]
		takes, puts := effectByWords(c, i)
		left := height - takes + puts
		if takes > height || left > u.Stack || i.Op == api.OpMark && height > 0 || i.Op == api.OpReturn && left != 0 {
			return nil, false
		}
		next := []place{{at + 1, left}, {i.A, left}}
		switch i.Op {
		case api.OpReturn:
			next = nil
		case api.OpJump:
			next = next[1:]
		case api.OpUnless:
		default:
			next = next[:1]
		}
		for _, p := range next {
			if p.at >= len(u.Ins) {
				return nil, false
			}
			if !known[p] {
				known[p] = true
				l = append(l, p)
			}
		}
	}
	heights := slices.Repeat([]int{-1}, len(u.Ins))
	for _, p := range l {
		if heights[p.at] != -1 {
			return nil, false
		}
		heights[p.at] = p.height
	}
	return heights, true
}

func listByWords(c api.Code) []string {
	var l []string
	for _, u := range c.Units {
		l = append(l, "fn "+u.Name)
		for n, i := range u.Ins {
			s := fmt.Sprintf("%d %s", n, opNames[i.Op])
			if strings.Contains(" mark int bool str load store jump unless call return array new field setfield print ", " "+opNames[i.Op]+" ") {
				s += fmt.Sprintf(" %d", i.A)
			}
			l = append(l, s)
		}
	}
	return l
}

// piece is something that stands in a code's bytes: a count, a number, a truth or a text.
type piece struct {
	kind string
	n    int
	s    string
}

// bytes tells a piece's bytes by the library's numbers, which are those of chapter 1.
func (p piece) bytes() []byte {
	if p.kind == "text" {
		return append(binary.AppendVarint(nil, int64(len(p.s))), p.s...)
	}
	if p.kind == "truth" {
		return []byte{byte(p.n)}
	}
	return binary.AppendVarint(nil, int64(p.n))
}

func bytesOf(l []piece) []byte {
	var b []byte
	for _, p := range l {
		b = append(b, p.bytes()...)
	}
	return b
}

// pieces tells what stands in a code's bytes, in the chapter's order.
func pieces(c api.Code) []piece {
	var l []piece
	count := func(n int) { l = append(l, piece{"count", n, ""}) }
	numbers := func(all ...int) {
		for _, n := range all {
			l = append(l, piece{"number", n, ""})
		}
	}
	texts := func(all ...string) {
		for _, s := range all {
			l = append(l, piece{"text", 0, s})
		}
	}
	count(len(c.Strs))
	texts(c.Strs...)
	count(len(c.Shapes))
	for _, s := range c.Shapes {
		texts(s.Name)
		count(len(s.Fields))
		texts(s.Fields...)
	}
	count(len(c.Units))
	for _, u := range c.Units {
		texts(u.Name)
		numbers(u.Params, u.Slots, u.Stack)
		truth := 0
		if u.Result {
			truth = 1
		}
		l = append(l, piece{"truth", truth, ""})
		count(len(u.Ins))
		for _, i := range u.Ins {
			numbers(int(i.Op), i.A)
		}
		count(len(u.Vars))
		for _, v := range u.Vars {
			texts(v.Name)
			numbers(v.Slot, v.From, v.To)
		}
	}
	numbers(c.Main)
	return l
}

// loadError tells what Load must say of bytes: it reads in the chapter's order, and gives up where wire goes wrong.
func loadError(b []byte) api.Errno {
	_, err := loadByWords(b)
	return err
}

func loadByWords(b []byte) (c api.Code, err api.Errno) {
	r := wire.NewReader(b)
	defer func() {
		if x, is := recover().(api.Errno); is {
			c, err = api.Code{}, x
		}
	}()
	demand := func() {
		if r.Err() != api.OK {
			panic(r.Err())
		}
	}
	number := func() int { n := r.Int(); demand(); return n }
	count := func() int { n := r.Count(1 << 20); demand(); return n }
	text := func() string { s := r.Text(255); demand(); return s }
	for range count() {
		c.Strs = append(c.Strs, text())
	}
	for range count() {
		s := api.Shape{Name: text()}
		for range count() {
			s.Fields = append(s.Fields, text())
		}
		c.Shapes = append(c.Shapes, s)
	}
	for range count() {
		u := api.Unit{Name: text()}
		for _, to := range []*int{&u.Params, &u.Slots, &u.Stack} {
			*to = number()
		}
		u.Result = r.Bool()
		demand()
		for range count() {
			i := api.Ins{Op: api.Op(number())}
			i.A = number()
			u.Ins = append(u.Ins, i)
		}
		for range count() {
			v := api.Var{Name: text()}
			for _, to := range []*int{&v.Slot, &v.From, &v.To} {
				*to = number()
			}
			u.Vars = append(u.Vars, v)
		}
		c.Units = append(c.Units, u)
	}
	c.Main = number()
	if r.At() < len(b) {
		return api.Code{}, api.ErrBig
	}
	if !rightByWords(c) {
		return api.Code{}, api.ErrArg
	}
	return c, api.OK
}
