package debug

import (
	"slices"
	"strings"
	"testing"
	"unsafe"

	"hindcast/api"
)

// rich is a run whose code has texts, shapes, several units and variables, with input.
func rich() work {
	return compiled(wide, []int{1, 2, 3, 4, 5, 6},
		"record P { x: int, s: str }", "fn set(p: P, n: int): str {", "p.x = p.x + n;", "p.s = p.s + \"ab\";", "return p.s;", "}",
		"fn main() {", "let p = new P(input(), \"\");", "let l = [p, p];", "let i = 0;", "while i < 5 {", "let s = set(l[1], input());", "print(i, \"cd\", s, p);", "i = i + 1;", "}", "}")
}

// withRoom tells a list with room behind its end, in which others stand.
func withRoom[T any](l []T, other T) []T {
	return slices.Concat(l, []T{other, other, other})[:len(l)]
}

// roomy tells the same work, all lists with room.
func roomy(w work) work {
	c := w.code
	c.Strs = withRoom(c.Strs, "behind")
	c.Shapes = withRoom(c.Shapes, api.Shape{Name: "behind"})
	for i, s := range c.Shapes {
		c.Shapes[i].Fields = withRoom(s.Fields, "behind")
	}
	c.Units = withRoom(c.Units, api.Unit{Name: "behind"})
	for i, u := range c.Units {
		c.Units[i].Ins = withRoom(u.Ins, api.Ins{Op: 99})
		c.Units[i].Vars = withRoom(u.Vars, api.Var{Name: "behind"})
	}
	w.code, w.input = c, withRoom(w.input, -99)
	return w
}

// whole tells all of a work, with what stands behind its lists' ends.
func whole(w work) string {
	s := told(w.code.Strs[:cap(w.code.Strs)]) + told(w.code.Shapes[:cap(w.code.Shapes)]) + told(w.code.Units[:cap(w.code.Units)]) + told(w.input[:cap(w.input)])
	for _, x := range w.code.Shapes {
		s += told(x.Fields[:cap(x.Fields)])
	}
	for _, u := range w.code.Units {
		s += told(u.Ins[:cap(u.Ins)]) + told(u.Vars[:cap(u.Vars)])
	}
	return s
}

// clearAll makes all that a work's lists have another.
func clearAll(w work) {
	clear(w.input)
	clear(w.code.Strs)
	for _, s := range w.code.Shapes {
		clear(s.Fields)
	}
	clear(w.code.Shapes)
	for _, u := range w.code.Units {
		clear(u.Ins)
		clear(u.Vars)
	}
	clear(w.code.Units)
}

// many are commands of all kinds, that go through all of rich.
func many() []api.Cmd {
	return []api.Cmd{
		breakCmd(4, "p.x > 3"), watchCmd("p.s"), cmd(4), cmd(4), printCmd("p"), cmd(4), cmd(api.CmdUp), printCmd("l[0].x"), cmd(3), cmd(8), gotoCmd(12), cmd(6), cmd(7), watchCmd("len(l)"), cmd(4), cmd(2), gotoCmd(999), idCmd(api.CmdDisable, 2), cmd(4), idCmd(api.CmdDelete, 1), cmd(4), cmd(8), cmd(5), cmd(1), printCmd("p.zz"),
	}
}

// What is handed to New and Load is not changed, with what stands behind the lists' ends, whatever is done to the debugger.
func TestHandedInUnchanged(t *testing.T) {
	y := through(rich())
	w := roomy(rich())
	was := whole(w)
	p := newPair(t, w, y, 3, 4)
	p.do(many()...)
	expect(t, "what was handed to New", whole(w), was)
	p.do(breakCmd(9, "i > 1"), gotoCmd(9))
	s := p.d.Save()
	s.Stops = withRoom(s.Stops, api.Stop{Id: 77, Line: 7})
	stops := told(s.Stops[:cap(s.Stops)])
	q := &pair{t, "loaded", mustLoad(t, w, 3, 4, s), p.m.copy()}
	q.do(many()...)
	expect(t, "what was handed to Load", whole(w), was)
	expect(t, "the stops that were handed to Load", told(s.Stops[:cap(s.Stops)]), stops)
	s.Last.N = -1
	refuseLoad(t, w, 3, s, api.ErrFormat)
	expect(t, "the stops that were handed to a Load that was refused", told(s.Stops[:cap(s.Stops)]), stops)
}

// What is handed in is not kept: a debugger goes on as it would have gone, though that is another then.
func TestHandedInNotKept(t *testing.T) {
	y := through(rich())
	for n, c := range many() {
		w := roomy(rich())
		p := newPair(t, w, y, 3, 4)
		p.do(many()[:n]...)
		s := p.d.Save()
		q := &pair{t, "loaded", mustLoad(t, w, 2, 3, s), p.m.copy()}
		clearAll(w)
		clear(s.Stops[:cap(s.Stops)])
		p.do(c)
		q.do(c)
		p.do(many()[n:]...)
		q.do(many()[n:]...)
	}
}

// spoil changes all that a debugger tells, which is its asker's.
func spoil(d *Debugger) {
	v, s, h := d.View(), d.Save(), d.Heap()
	for _, f := range v.Look.Frames {
		clear(f.Vars[:cap(f.Vars)])
	}
	clear(v.Look.Frames[:cap(v.Look.Frames)])
	for _, l := range [][]api.Stop{v.Stops, s.Stops} {
		l = l[:cap(l)]
		for i := range l {
			l[i] = api.Stop{Id: 77, Line: 7, Off: true}
		}
	}
	for i, o := range h.All() {
		for n := range o.Cells {
			h.Set(api.Val{Kind: api.VRef, N: i}, n, api.Val{Kind: api.VStr, S: "other"})
		}
	}
	h.Alloc("", []api.Val{{Kind: api.VInt, N: 1}})
}

// What is told may be written into: the debugger, and what it tells later, stay as they were.
func TestToldApart(t *testing.T) {
	w := rich()
	for _, most := range []int{1, 3, 64} {
		p := newPair(t, w, through(w), 2, most)
		for _, c := range many() {
			spoil(p.d)
			expectSame(t, p.what+": told and changed", p.d, p.m)
			p.do(c)
			spoil(p.d)
			p.do(cmd(0), breakCmd(4, ""), idCmd(api.CmdDelete, p.m.next-1))
		}
	}
}

// What was told stays as it was, whatever is done to the debugger.
func TestToldStays(t *testing.T) {
	p := pairOf(t, rich())
	p.do(many()[:7]...)
	v, s, h := p.d.View(), p.d.Save(), p.d.Heap()
	view, saved, objects := told(v), told(s), heapTold(h)
	for _, c := range many() {
		p.do(c)
		p.do(idCmd(api.CmdEnable, 2), gotoCmd(5))
		expect(t, "a view", told(v), view)
		expect(t, "what was saved", told(s), saved)
		expect(t, "a heap", heapTold(h), objects)
	}
}

// shares tells whether a text shares memory with another one.
func shares(x, s string) bool {
	if x == "" || s == "" {
		return false
	}
	p, from := uintptr(unsafe.Pointer(unsafe.StringData(x))), uintptr(unsafe.Pointer(unsafe.StringData(s)))
	return from < p+uintptr(len(x)) && p < from+uintptr(len(s))
}

// toldTexts tells all texts that a debugger shows and saves, but for those that stand in both: each of the two lists is of one answer.
func toldTexts(d *Debugger) [][]string {
	v, s := d.View(), d.Save()
	view, saved := []string{v.Last.Says, v.Look.Out}, []string{s.Last.Says}
	for _, f := range v.Look.Frames {
		view = append(view, f.Func)
		for _, b := range f.Vars {
			view = append(view, b.Name, b.Value.S)
		}
	}
	for _, x := range v.Stops {
		view = append(view, x.Cond, x.Watch)
	}
	for _, x := range s.Stops {
		saved = append(saved, x.Cond, x.Watch)
	}
	return [][]string{view, saved}
}

// keptTexts tells the texts that a debugger keeps by itself.
func keptTexts(d *Debugger) []string {
	l := []string{d.last.Says}
	for _, x := range d.shapes {
		l = append(append(l, x.Name), x.Fields...)
	}
	return l
}

// codeTexts tells the texts of a code.
func codeTexts(c api.Code) []string {
	l := slices.Clone(c.Strs)
	for _, x := range c.Shapes {
		l = append(append(l, x.Name), x.Fields...)
	}
	for _, u := range c.Units {
		l = append(l, u.Name)
		for _, v := range u.Vars {
			l = append(l, v.Name)
		}
	}
	return l
}

// Texts that are told share no memory with those that were handed in or told ahead, nor with those that are kept.
func TestTextsOfTheirOwn(t *testing.T) {
	w := rich()
	cond, watch, text := strings.Repeat(" ", 50)+"p.x > 0", strings.Repeat(" ", 50)+"p.s", "p.s + \""+strings.Repeat("x", 100)+"\""
	d := mustNew(t, w, 3, 3)
	for _, c := range []api.Cmd{breakCmd(4, cond), watchCmd(watch), cmd(4), cmd(4)} {
		d.Do(c)
	}
	lists := [][]string{{cond, watch, text}, codeTexts(w.code), {d.Do(printCmd(text)).Says}}
	expect(t, "the error of what was printed", d.View().Last.Err, api.OK)
	s := d.Save()
	other := mustLoad(t, w, 3, 3, s)
	lists = append(lists, []string{s.Last.Says, s.Stops[0].Cond, s.Stops[1].Watch}, keptTexts(d), keptTexts(other))
	for range 2 {
		lists = append(append(lists, toldTexts(d)...), toldTexts(other)...)
	}
	for i, l := range lists {
		for _, m := range lists[i+1:] {
			expectNoneShared(t, l, m)
		}
	}
	expect(t, "the text that is kept", d.last.Says, `"`+strings.Repeat("x", 100)+`"`)
}

func expectNoneShared(t *testing.T, l, m []string) {
	t.Helper()
	for _, x := range l {
		for _, y := range m {
			if shares(x, y) {
				t.Errorf("the text %q shares memory with %q", x, y)
			}
		}
	}
}
