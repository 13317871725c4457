package heap

import (
	"fmt"
	"reflect"
	"regexp"
	"slices"
	"strconv"
	"strings"
	"testing"

	"hindcast/api"
)

func num(n int) api.Val    { return api.Val{Kind: api.VInt, N: n} }
func truth(n int) api.Val  { return api.Val{Kind: api.VBool, N: n} }
func txt(s string) api.Val { return api.Val{Kind: api.VStr, S: s} }
func ref(n int) api.Val    { return api.Val{Kind: api.VRef, N: n} }

// obj makes an object whose list of cells is nobody else's.
func obj(tag string, cells ...api.Val) api.Obj {
	return api.Obj{Tag: tag, Cells: slices.Clone(cells)}
}

// nums tells the numbers from 0 on, as many as are asked for.
func nums(n int) []api.Val {
	var l []api.Val
	for i := range n {
		l = append(l, num(i))
	}
	return l
}

func expect[T comparable](t *testing.T, what string, got, want T) {
	t.Helper()
	if got != want {
		t.Errorf("%.200q: %v, not %v", what, got, want)
	}
}

func mustAlloc(t *testing.T, h *Heap, tag string, cells ...api.Val) api.Val {
	t.Helper()
	v, err := h.Alloc(tag, cells)
	if err != api.OK {
		t.Fatalf("Alloc(%q, %d cells): %d", tag, len(cells), err)
	}
	return v
}

func mustLoad(t *testing.T, most int, l ...api.Obj) *Heap {
	t.Helper()
	h, err := Load(most, l)
	if err != api.OK || h == nil {
		t.Fatalf("Load(%d, %.200v): %v, %d", most, l, h, err)
	}
	return h
}

func mustSet(t *testing.T, h *Heap, v api.Val, i int, x api.Val) {
	t.Helper()
	if err := h.Set(v, i, x); err != api.OK {
		t.Fatalf("Set(%v, %d, %v): %d", v, i, x, err)
	}
}

// expectNoAlloc tells whether an object is refused for an error, and the heap is as it was.
func expectNoAlloc(t *testing.T, h *Heap, tag string, cells []api.Val, err api.Errno) {
	t.Helper()
	was := told(h)
	got, e := h.Alloc(tag, cells)
	if got != (api.Val{}) || e != err {
		t.Errorf("Alloc(%.40q, %.200v): %v, %d, not nothing, %d", tag, cells, got, e, err)
	}
	expect(t, "what was told ahead of an Alloc that is refused", told(h), was)
}

func expectNoLoad(t *testing.T, most int, l []api.Obj, err api.Errno) {
	t.Helper()
	if h, e := Load(most, l); h != nil || e != err {
		t.Errorf("Load(%d, %.200v): %v, %d, not nothing, %d", most, l, h, e, err)
	}
}

// expectObjects holds all that a heap tells, call by call, against the objects that it should have.
func expectObjects(t *testing.T, what string, h *Heap, most int, want ...api.Obj) {
	t.Helper()
	m := model{most: most, l: want}
	expect(t, what+": all that is told", told(h), told(m))
	expect(t, what+": how much there is room for", room(h), max(min(most, 4096), 0)-m.Used())
}

// teller is what a heap tells: the program's, or one by the chapter's words.
type teller interface {
	Get(v api.Val, i int) (api.Val, api.Errno)
	Len(v api.Val) (int, api.Errno)
	Tag(v api.Val) (string, api.Errno)
	Used() int
	All() []api.Obj
	Show(v api.Val) string
}

// told puts all that a heap tells into one text: what is the same in it, no call but one that makes or sets could tell apart.
func told(h teller) string {
	var b strings.Builder
	all := h.All()
	fmt.Fprintln(&b, len(all), h.Used())
	for n, o := range all {
		size, errLen := h.Len(ref(n))
		tag, errTag := h.Tag(ref(n))
		fmt.Fprintf(&b, "%d: %q %v, %d %d, %q %d, %q:", n, o.Tag, append([]api.Val{}, o.Cells...), size, errLen, tag, errTag, h.Show(ref(n)))
		for i := -1; i <= len(o.Cells); i++ {
			v, err := h.Get(ref(n), i)
			fmt.Fprint(&b, " ", v, err)
		}
		fmt.Fprintln(&b)
	}
	_, err := h.Len(ref(len(all)))
	fmt.Fprintln(&b, err, h.Show(ref(len(all))))
	return b.String()
}

// room tells how much a heap may use yet, which a copy of it is filled for.
func room(h *Heap) int {
	c := h.Copy()
	for n := 0; ; n++ {
		if _, err := c.Alloc("", nil); err != api.OK {
			return n
		}
	}
}

// model is a heap once more, by the chapter's words, and told apart from the program's.
type model struct {
	most int
	l    []api.Obj
}

var (
	aText = regexp.MustCompile(`\A(?:\n|[ -~]){0,255}\z`)
	aName = regexp.MustCompile(`\A[A-Za-z_][A-Za-z0-9_]{0,19}\z`)
	aWord = regexp.MustCompile(`\A(?:fn|record|let|if|else|while|return|new|true|false)\z`)
)

func rightTag(s string) bool {
	return s == "" || aName.MatchString(s) && !aWord.MatchString(s)
}

func right(v api.Val, n int) bool {
	switch v {
	case api.Val{}, num(v.N), truth(0), truth(1):
		return true
	case txt(v.S):
		return aText.MatchString(v.S)
	case ref(v.N):
		return v.N >= 0 && v.N < n
	}
	return false
}

func rightCells(l []api.Val, n int) bool {
	return !slices.ContainsFunc(l, func(v api.Val) bool { return v == api.Val{} || !right(v, n) })
}

func (m model) Used() int {
	n := 0
	for _, o := range m.l {
		n += 1 + len(o.Cells)
	}
	return n
}

func (m model) All() []api.Obj { return m.l }

func (m model) object(v api.Val) (api.Obj, api.Errno) {
	for n, o := range m.l {
		if v == ref(n) {
			return o, api.OK
		}
	}
	return api.Obj{}, api.ErrArg
}

func (m model) Get(v api.Val, i int) (api.Val, api.Errno) {
	o, err := m.object(v)
	if err != api.OK {
		return api.Val{}, err
	}
	for at, x := range o.Cells {
		if at == i {
			return x, api.OK
		}
	}
	return api.Val{}, api.ErrNone
}

func (m model) Len(v api.Val) (int, api.Errno) {
	o, err := m.object(v)
	return len(o.Cells), err
}

func (m model) Tag(v api.Val) (string, api.Errno) {
	o, err := m.object(v)
	return o.Tag, err
}

func (m *model) Alloc(tag string, cells []api.Val) (api.Val, api.Errno) {
	n := len(m.l)
	switch {
	case !rightTag(tag) || !rightCells(cells, n):
		return api.Val{}, api.ErrArg
	case m.Used()+1+len(cells) > m.most:
		return api.Val{}, api.ErrFull
	}
	m.l = append(m.l, obj(tag, cells...))
	return ref(n), api.OK
}

func (m model) Set(v api.Val, i int, x api.Val) api.Errno {
	if _, err := m.object(v); err != api.OK || !rightCells([]api.Val{x}, len(m.l)) {
		return api.ErrArg
	}
	if _, err := m.Get(v, i); err != api.OK {
		return err
	}
	m.l[v.N].Cells[i] = x
	return api.OK
}

func (m model) Show(v api.Val) string {
	if !right(v, len(m.l)) {
		return ""
	}
	s := m.like(v, 0)
	if len(s) > 200 {
		return s[:197] + "..."
	}
	return s
}

// like tells a value within so many objects.
func (m model) like(v api.Val, within int) string {
	switch v.Kind {
	case api.VNone:
		return "none"
	case api.VInt:
		return fmt.Sprintf("%d", v.N)
	case api.VBool:
		return fmt.Sprintf("%t", v.N != 0)
	case api.VStr:
		return `"` + strings.NewReplacer("\\", "\\\\", "\n", "\\n", "\"", "\\\"").Replace(v.S) + `"`
	}
	if within == 2 {
		return "..."
	}
	var l []string
	for i, x := range m.l[v.N].Cells {
		if i == 8 {
			l = append(l, "...")
			break
		}
		l = append(l, m.like(x, within+1))
	}
	s := strings.Join(l, ", ")
	if tag := m.l[v.N].Tag; tag != "" {
		return tag + "(" + s + ")"
	}
	return "[" + s + "]"
}

// wrongTags are such as no object may have.
func wrongTags() []string {
	l := strings.Fields("fn record let if else while return new true false ( ) { } [ ] , : ; . = == != < <= > >= + - * / % ! && || 1 1a a-b a.b [a] [int] \"a\" // é ä aé -a")
	return append(l, " ", "a ", " a", "a b", "\n", "a\n", "a\x00", "\x80", "a//", strings.Repeat("a", 21), strings.Repeat("a", 1<<16))
}

// rightTags are such as an object may have.
func rightTags() []string {
	return []string{"", "P", "p", "_", "_1", "int", "bool", "str", "len", "Fn", "fn1", "none", "aZ09_", strings.Repeat("w", 20)}
}

// wrongValues are such as are not right, whatever objects there are.
func wrongValues() []api.Val {
	l := []api.Val{
		{N: 1}, {N: -1}, {S: "a"}, {N: 1, S: "a"},
		{Kind: api.VInt, S: "a"}, {Kind: api.VInt, N: 3, S: "3"},
		truth(2), truth(-1), truth(1 << 32), truth(1<<62 + 1), {Kind: api.VBool, S: "a"}, {Kind: api.VBool, N: 1, S: "true"},
		txt("\x00"), txt("\t"), txt("\r"), txt("\x1f"), txt("\x7f"), txt("\x80"), txt("\xff"), txt("é"), txt("a\x00"), txt("\ta"),
		txt(strings.Repeat("a", 256)), txt(strings.Repeat("\n", 256)), txt(strings.Repeat("a", 1<<16)), txt(strings.Repeat("a", 255) + "\t"),
		{Kind: api.VStr, N: 1}, {Kind: api.VStr, N: -1, S: "a"},
		ref(-1), ref(-1 << 63), {Kind: api.VRef, S: "a"}, {Kind: api.VRef, N: 1, S: "0"},
	}
	for _, k := range []api.ValKind{-1 << 63, -1, 5, 6, 1<<32 + 1, 1<<63 - 1} {
		l = append(l, api.Val{Kind: k}, api.Val{Kind: k, N: 1}, api.Val{Kind: k, S: "a"})
	}
	return l
}

// rightValues are such as may be a cell, whatever objects there are.
func rightValues() []api.Val {
	return []api.Val{
		num(0), num(1), num(-1), num(1<<63 - 1), num(-1 << 63), truth(0), truth(1),
		txt(""), txt("a"), txt(" "), txt("~"), txt("\n"), txt("\\"), txt("\""), txt("a\\n\n\""), txt("\\\\"), txt("none"),
		txt(strings.Repeat("a", 255)), txt(strings.Repeat("\"", 255)), txt(strings.Repeat("\n", 255)),
	}
}

func TestModel(t *testing.T) {
	m := &model{most: 9}
	m.Alloc("", []api.Val{num(1), num(2)})
	m.Alloc("P", []api.Val{ref(0), truth(1)})
	expect(t, "the chapter's example", m.Show(ref(1)), "P([1, 2], true)")
	m.Set(ref(0), 1, ref(1))
	expect(t, "the chapter's example, set", m.Show(ref(1)), "P([1, ...], true)")
	expect(t, "the chapter's example, used", m.Used(), 6)
	if !reflect.DeepEqual(m.All(), []api.Obj{obj("", num(1), ref(1)), obj("P", ref(0), truth(1))}) {
		t.Error(m.All())
	}
	for i, v := range wrongValues() {
		expect(t, "the wrong value "+strconv.Itoa(i), right(v, 1<<40), false)
	}
	for i, v := range rightValues() {
		expect(t, "the right value "+strconv.Itoa(i), right(v, 0), true)
	}
}
