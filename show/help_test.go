package show

import (
	"fmt"
	"regexp"
	"slices"
	"strings"
	"testing"

	"hindcast/api"
	"hindcast/heap"
)

const (
	least = -1 << 63
	most  = 1<<63 - 1
)

var none api.Val

func num(n int) api.Val                  { return api.Val{Kind: api.VInt, N: n} }
func bit(n int) api.Val                  { return api.Val{Kind: api.VBool, N: n} }
func txt(s string) api.Val               { return api.Val{Kind: api.VStr, S: s} }
func ref(n int) api.Val                  { return api.Val{Kind: api.VRef, N: n} }
func named(n string, v api.Val) api.Bind { return api.Bind{Name: n, Value: v} }

func obj(tag string, cells ...api.Val) api.Obj { return api.Obj{Tag: tag, Cells: cells} }

func frame(name string, line int, vars ...api.Bind) api.Frame {
	return api.Frame{Func: name, Line: line, Vars: vars}
}

func objects(l ...api.Obj) *heap.Heap {
	h, err := heap.Load(api.MaxHeap, l)
	if err != api.OK {
		panic(fmt.Sprintf("the test is wrong: error %d of %+v", err, l))
	}
	return h
}

func expect[T comparable](t *testing.T, what string, got, want T) {
	t.Helper()
	if got != want {
		t.Errorf("%.300s:\n got %.900v\nwant %.900v", what, got, want)
	}
}

// told tells what is told as a text, in which nil and the empty list are the same.
func told(x any) string { return fmt.Sprintf("%+v", x) }

// expectShown says which lines are shown, and that the bytes are the same lines.
func expectShown(t *testing.T, what string, v api.View, h *heap.Heap, want ...string) {
	t.Helper()
	l, err := Lines(v, h)
	if !slices.Equal(l, want) || err != api.OK {
		t.Errorf("%.300s:\n got %.2000q, error %d\nwant %.2000q", what, l, err, want)
	}
	whole := ""
	for _, s := range want {
		whole += s + "\n"
	}
	if b, err := Bytes(v, h); string(b) != whole || err != api.OK {
		t.Errorf("%.300s: the bytes:\n got %.2000q, error %d\nwant %.2000q", what, b, err, whole)
	}
}

// expectRefused says that nothing is shown, and why.
func expectRefused(t *testing.T, what string, v api.View, h *heap.Heap, want api.Errno) {
	t.Helper()
	if l, err := Lines(v, h); len(l) > 0 || err != want {
		t.Errorf("%.300s: %.300q, error %d, not error %d", what, l, err, want)
	}
	if b, err := Bytes(v, h); len(b) > 0 || err != want {
		t.Errorf("%.300s: the bytes: %.300q, error %d, not error %d", what, b, err, want)
	}
}

// one tells the one line that is shown of a view in the place of those that there are without it.
func one(t *testing.T, v api.View, at int) string {
	t.Helper()
	l, err := Lines(v, heap.New(0))
	if err != api.OK || at >= len(l) {
		t.Fatalf("error %d, %d lines", err, len(l))
	}
	return l[at]
}

// kinds are the sorts of lines of which a part may be any text: each tells a view with that text in it, the place of its line, and what stands ahead of the text there.
var kinds = []struct {
	name  string
	of    func(s string) api.View
	at    int
	ahead string
}{
	{"a function's name", func(s string) api.View { return api.View{Look: api.Look{Frames: []api.Frame{frame(s, 7)}}} }, 1, "> "},
	{"a variable's name", func(s string) api.View {
		return api.View{Look: api.Look{Frames: []api.Frame{frame("f", 7, named("a", num(1)), named(s, num(2)))}}}
	}, 1, "> f:7 a=1 "},
	{"a line of the output", func(s string) api.View { return api.View{Look: api.Look{Out: s + "\n"}} }, 1, "| "},
	{"a condition", func(s string) api.View { return api.View{Stops: []api.Stop{{Id: 3, Line: 4, Cond: s}}} }, 1, "#3 line 4 if "},
	{"a condition that is off", func(s string) api.View { return api.View{Stops: []api.Stop{{Id: 3, Line: 4, Cond: s, Off: true}}} }, 1, "#3 line 4 if "},
	{"a watch", func(s string) api.View { return api.View{Stops: []api.Stop{{Id: 3, Watch: s}}} }, 1, "#3 watch "},
	{"a watch that is off", func(s string) api.View { return api.View{Stops: []api.Stop{{Id: 3, Watch: s, Off: true}}} }, 1, "#3 watch "},
	{"what a reply says", func(s string) api.View { return api.View{Last: api.Reply{Says: s}} }, 1, "ok "},
	{"what a reply says beside an error", func(s string) api.View { return api.View{Last: api.Reply{Err: 5, N: -6, Says: s}} }, 1, "error 5 -6 "},
}

// behind are what stands behind the text, by the same places.
var behind = []string{":7", "=2", "", "", " off", "", " off", "", ""}

// names are the ten faults' names, as the chapter lists them.
var names = strings.Fields("division index size text input heap frames output steps kind")

// The model: what is shown by the chapter's words, written as one text with the bytes that may not be shown as signs of their own, and only then cut by patterns.

var wild = regexp.MustCompile(`[^ -~]`)

// oneEach tells a text of which each byte is a sign of its own, that of the byte's number.
func oneEach(s string) string {
	var b strings.Builder
	for i := range len(s) {
		b.WriteRune(rune(s[i]))
	}
	return b.String()
}

func modelLine(s string) string {
	s = wild.ReplaceAllString(oneEach(s), "?")
	if len(s) < 201 {
		return s
	}
	return fmt.Sprintf("%.197s...", s)
}

func modelFrames(v api.View, h *heap.Heap) []string {
	var l []string
	for n, f := range slices.Backward(v.Look.Frames) {
		mark := map[bool]string{true: ">", false: " "}[len(v.Look.Frames)-1-n == v.Sel]
		s := fmt.Sprintf("%s %s:%d", mark, f.Func, f.Line)
		for _, b := range f.Vars {
			s += fmt.Sprintf(" %s=%s", b.Name, h.Show(b.Value))
		}
		l = append(l, s)
	}
	return l
}

func modelOut(out string) []string {
	var l []string
	for s := range strings.Lines(out) {
		if strings.HasSuffix(s, "\n") {
			l = append(l, "| "+s[:len(s)-1])
		}
	}
	return l[max(0, len(l)-4):]
}

func modelStops(v api.View) []string {
	var l []string
	for _, s := range v.Stops {
		x := fmt.Sprintf("#%d line %d if %s", s.Id, s.Line, s.Cond)
		if s.Cond == "" {
			x = fmt.Sprintf("#%d line %d", s.Id, s.Line)
		}
		if s.Watch != "" {
			x = fmt.Sprintf("#%d watch %s", s.Id, s.Watch)
		}
		if s.Off {
			x += " off"
		}
		l = append(l, x)
	}
	return l
}

func modelLast(r api.Reply) string {
	s := "ok"
	if r.Err != 0 {
		s = fmt.Sprint("error ", int(r.Err))
	}
	if r.N != 0 {
		s += fmt.Sprint(" ", r.N)
	}
	if r.Says != "" {
		s += " " + r.Says
	}
	return s
}

// modelRefuses tells the error of a view that can't be shown.
func modelRefuses(v api.View, h *heap.Heap) api.Errno {
	if h == nil || h.Copy() == nil {
		return 1
	}
	objs := len(h.All())
	right := slices.Contains([]api.Status{0, 1}, v.Look.Status) && (v.Look.Fault < 1 || v.Look.Fault > 10) || v.Look.Status == 2 && v.Look.Fault >= 1 && v.Look.Fault <= 10
	for _, f := range v.Look.Frames {
		for _, b := range f.Vars {
			right = right && heap.Check(b.Value, objs) == api.OK
		}
	}
	if !right {
		return 2
	}
	return 0
}

func model(v api.View, h *heap.Heap) ([]string, api.Errno) {
	if err := modelRefuses(v, h); err != 0 {
		return nil, err
	}
	how := []string{"running", "done", "fault "}[v.Look.Status]
	if v.Look.Status == 2 {
		how += names[v.Look.Fault-1]
	}
	l := slices.Concat([]string{fmt.Sprintf("at %d %s", v.Look.Pos, how)}, modelFrames(v, h), modelOut(v.Look.Out), modelStops(v), []string{modelLast(v.Last)})
	for i, s := range l {
		l[i] = modelLine(s)
	}
	return l, 0
}

// expectSame holds what is shown against the model, and against what all lines have in common.
func expectSame(t *testing.T, what string, v api.View, h *heap.Heap) {
	t.Helper()
	want, err := model(v, h)
	if err != 0 {
		expectRefused(t, what, v, h, err)
		return
	}
	expectShown(t, what, v, h, want...)
	l, _ := Lines(v, h)
	expectOneEach(t, what, v, l)
}

// expectOneEach says what P16.4 asks of the lines of a view.
func expectOneEach(t *testing.T, what string, v api.View, l []string) {
	t.Helper()
	expect(t, what+": how many lines", len(l), len(v.Look.Frames)+len(v.Stops)+min(4, strings.Count(v.Look.Out, "\n"))+2)
	for _, s := range l {
		if len(s) > 200 || strings.Trim(s, " !\"#$%&'()*+,-./0123456789:;<=>?@ABCDEFGHIJKLMNOPQRSTUVWXYZ[\\]^_`abcdefghijklmnopqrstuvwxyz{|}~") != "" || wild.MatchString(s) {
			t.Errorf("%.300s: the line %q of %d bytes", what, s, len(s))
		}
	}
}
