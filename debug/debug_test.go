package debug

import (
	"fmt"
	"math"
	"reflect"
	"slices"
	"strings"
	"testing"

	"hindcast/api"
	"hindcast/travel"
)

// A debugger hands on just what the chapter lists.
func TestFace(t *testing.T) {
	var names []string
	for m := range reflect.TypeFor[*Debugger]().Methods() {
		names = append(names, m.Name)
	}
	expect(t, "the calls of a debugger", told(names), "[Do Heap Save View]")
	expect(t, "exported fields of a debugger", len(slices.DeleteFunc(reflect.VisibleFields(reflect.TypeFor[Debugger]()), func(f reflect.StructField) bool { return !f.IsExported() })), 0)
}

// The chapter's example.
func TestExample(t *testing.T) {
	p := pairOf(t, example())
	p.expectAt(cmd(api.CmdStep), fine, 1)
	p.expectAt(cmd(api.CmdStep), fine, 2)
	expect(t, "the line", p.d.View().Look.Frames[0].Line, 4)
	p.expectAt(breakCmd(4, ""), api.Reply{N: 1}, 2)
	p.expectAt(cmd(api.CmdContinue), fine, 4)
	p.expectAt(cmd(api.CmdContinue), fine, 6)
	p.expectAt(cmd(api.CmdContinue), fine, 9)
	expect(t, "the status", p.d.View().Look.Status, api.Done)
	p.expectAt(cmd(api.CmdBackContinue), fine, 6)
	p.expectAt(printCmd("i"), api.Reply{Says: "2"}, 6)
	p.expectAt(watchCmd("i"), api.Reply{N: 2}, 6)
	p.expectAt(cmd(api.CmdBackContinue), fine, 5)
}

// P15.1: what travel.New refuses is refused; else the debugger is at the beginning.
func TestNew(t *testing.T) {
	w := example()
	bad := w.code
	bad.Main = 7
	for _, x := range []struct {
		work
		every int
	}{
		{w, 0}, {w, -1}, {w, math.MinInt}, {w, 1<<32 + 1}, {w, math.MaxInt},
		{work{"a code that is not right", bad, nil, wide}, 1}, {work{"no code", api.Code{}, nil, wide}, 1},
		{work{"no limits", w.code, nil, api.Limits{}}, 1}, {work{"too many steps", w.code, nil, api.Limits{Steps: 1<<32 + 1, Frames: 1}}, 1},
		{work{"too long an input", w.code, make([]int, 257), wide}, 1},
	} {
		for _, most := range []int{-1, 0, 1, 64, 65} {
			_, want := travel.New(x.code, x.input, x.lim, x.every, most)
			expect(t, "the test's own", want, api.ErrArg)
			if d, err := New(x.code, x.input, x.lim, x.every, most); d != nil || err != want {
				t.Errorf("%.100s, every %d: error %d, or a debugger", x.name, x.every, err)
			}
		}
		for _, s := range []api.Saved{{Next: 1}, {}, {Pos: -1}, {Sel: 9, Last: api.Reply{N: -1}}} {
			refuseLoad(t, x.work, x.every, s, api.ErrArg)
		}
	}
	for _, w := range works() {
		y := through(w)
		for _, every := range []int{1, 4, 1 << 32} {
			for _, most := range []int{math.MinInt, 0, 1, 64, math.MaxInt} {
				d := mustNew(t, w, every, most)
				expect(t, "View", told(d.View()), told(api.View{Look: y.looks[0]}))
				expect(t, "Save", told(d.Save()), told(api.Saved{Next: 1}))
				expect(t, "Heap", heapTold(d.Heap()), heapTold(y.heaps[0]))
			}
		}
	}
}

// Each call of no debugger, and of one that neither New nor Load made.
func TestNoDebugger(t *testing.T) {
	var none *Debugger
	for _, d := range []*Debugger{none, {}, new(Debugger)} {
		for range 2 {
			for k := range api.CmdKind(20) {
				for _, c := range []api.Cmd{cmd(k), {Kind: k, N: 1}, {Kind: k, S: "1"}, {Kind: k, N: 1, S: "1"}, {Kind: k, N: -1, S: "1 +"}} {
					expect(t, told(c), d.Do(c), failed(api.ErrNil))
				}
			}
			expect(t, "View", told(d.View()), told(api.View{}))
			expect(t, "Save", told(d.Save()), told(api.Saved{}))
			expect(t, "is there a heap?", d.Heap() != nil, false)
		}
	}
}

// P15.2: commands of no kind, whatever they have.
func TestNoKind(t *testing.T) {
	p := pairOf(t, example())
	for _, k := range []api.CmdKind{0, -1, 18, 19, 255, math.MinInt, math.MaxInt} {
		for _, c := range []api.Cmd{cmd(k), {Kind: k, N: 1}, {Kind: k, S: "i"}, {Kind: k, N: 1, S: "i"}} {
			p.expectAt(c, failed(api.ErrArg), 0)
		}
	}
}

// P15.2: each kind with each thing that it has not, in the midst of a run in which all of them could be done.
func TestHasWhatItHasNot(t *testing.T) {
	p := pairOf(t, deep())
	p.do(breakCmd(2, ""), watchCmd("i"), gotoCmd(4))
	for k := api.CmdStep; k <= api.CmdPrint; k++ {
		fields := wants[k]
		for _, n := range []int{0, 1, -1, math.MinInt, math.MaxInt} {
			for _, s := range []string{"", "n", " ", "1 +"} {
				if n != 0 && !strings.Contains(fields, "N") || s != "" && !strings.Contains(fields, "S") {
					p.expectAt(api.Cmd{Kind: k, N: n, S: s}, failed(api.ErrArg), 4)
				}
			}
		}
	}
}

// P15.2: ErrArg comes ahead of what else is wrong.
func TestErrArgFirst(t *testing.T) {
	p := pairOf(t, example())
	for _, k := range []api.CmdKind{api.CmdBackStep, api.CmdBackNext, api.CmdBackFinish, api.CmdBackContinue, api.CmdDown, api.CmdUp} {
		p.expectAt(api.Cmd{Kind: k, N: 1}, failed(api.ErrArg), 0)
		p.expectAt(api.Cmd{Kind: k, S: "i"}, failed(api.ErrArg), 0)
	}
	for _, c := range []api.Cmd{
		{Kind: api.CmdGoto, N: -1, S: "i"}, {Kind: api.CmdGoto, N: 99, S: "i"}, {Kind: api.CmdGoto, N: -1}, {Kind: api.CmdGoto, N: math.MinInt},
		{Kind: api.CmdBreak, N: 0, S: "1 +"}, {Kind: api.CmdBreak, N: -1, S: "i"},
		{Kind: api.CmdWatch, N: 1, S: "1 +"}, {Kind: api.CmdWatch, N: 1}, {Kind: api.CmdPrint, N: 1, S: "1 +"}, {Kind: api.CmdPrint, N: 1, S: "zz"}, {Kind: api.CmdPrint, N: 1},
		{Kind: api.CmdDelete, N: 9, S: "i"}, {Kind: api.CmdEnable, N: 9, S: "i"}, {Kind: api.CmdDisable, N: 9, S: "i"}, {Kind: api.CmdDelete, S: "i"},
	} {
		p.expectAt(c, failed(api.ErrArg), 0)
	}
	p.do(gotoCmd(9))
	for _, k := range []api.CmdKind{api.CmdStep, api.CmdNext, api.CmdFinish, api.CmdContinue} {
		p.expectAt(api.Cmd{Kind: k, N: 1}, failed(api.ErrArg), 9)
		p.expectAt(api.Cmd{Kind: k, S: "i"}, failed(api.ErrArg), 9)
	}
	for range 16 {
		p.do(breakCmd(1, ""))
	}
	p.expectAt(breakCmd(0, ""), failed(api.ErrArg), 9)
	p.expectAt(breakCmd(1, "1 +"), failed(api.ErrSyntax), 9)
	p.expectAt(watchCmd(""), failed(api.ErrSyntax), 9)
	p.expectAt(api.Cmd{Kind: api.CmdWatch, N: 1, S: "i"}, failed(api.ErrArg), 9)
	p.expectAt(watchCmd("i"), failed(api.ErrFull), 9)
	p.expectAt(breakCmd(1, ""), failed(api.ErrFull), 9)
}

// moves are those that go forth, and those that go back.
var forthMoves, backMoves = []api.CmdKind{1, 2, 3, 4}, []api.CmdKind{5, 6, 7, 8}

// P15.2: at the last position nothing goes forth, at 0 nothing back; in a run that has ended there neither.
func TestNothingFurther(t *testing.T) {
	for _, w := range works() {
		p := pairOf(t, w)
		last := p.m.last()
		p.do(breakCmd(1, ""), breakCmd(2, ""), watchCmd("i"))
		for _, k := range backMoves {
			p.expectAt(cmd(k), failed(api.ErrEnd), 0)
		}
		p.expectAt(gotoCmd(last), fine, last)
		for _, k := range forthMoves {
			p.expectAt(cmd(k), failed(api.ErrEnd), last)
		}
		p.expectAt(gotoCmd(last+1), failed(api.ErrEnd), last)
		p.expectAt(gotoCmd(0), fine, 0)
		p.expectAt(gotoCmd(last+1), failed(api.ErrEnd), 0)
	}
}

// P15.2: at one position ahead of the end, and one behind the beginning, all moves lead there.
func TestOneFurther(t *testing.T) {
	for _, w := range []work{example(), deep(), falls()} {
		p := pairOf(t, w)
		last := p.m.last()
		for _, k := range forthMoves {
			p.expectAt(gotoCmd(last-1), fine, last-1)
			p.expectAt(cmd(k), fine, last)
		}
		for _, k := range backMoves {
			p.expectAt(gotoCmd(1), fine, 1)
			p.expectAt(cmd(k), fine, 0)
		}
	}
}

// leads says where each kind of a move leads from each position.
func leads(t *testing.T, w work, k api.CmdKind, want ...int) {
	t.Helper()
	y := through(w)
	for at, to := range want {
		for _, x := range []struct{ every, most int }{{1, 64}, {2, 2}, {5, 64}, {99, 1}} {
			p := newPair(t, w, y, x.every, x.most)
			p.do(gotoCmd(at))
			if to < 0 {
				p.expectAt(cmd(k), failed(api.ErrEnd), at)
			} else {
				p.expectAt(cmd(k), fine, to)
			}
			p.do(gotoCmd(y.last()), gotoCmd(at), cmd(k)) // where all was gone through
		}
	}
}

// P15.2: by depths, written out; also over a call that does not come back, and from the end, whose depth is 1 where the run is done.
func TestByDepth(t *testing.T) {
	leads(t, deep(), api.CmdStep, 1, 2, 3, 4, 5, 6, 7, 8, 9, 10, 11, 12, 13, 14, 15, -1)
	leads(t, deep(), api.CmdNext, 1, 7, 3, 6, 5, 6, 7, 13, 9, 12, 11, 12, 13, 14, 15, -1)
	leads(t, deep(), api.CmdFinish, 15, 15, 7, 7, 6, 6, 7, 15, 13, 13, 12, 12, 13, 15, 15, -1)
	leads(t, deep(), api.CmdContinue, 15, 15, 15, 15, 15, 15, 15, 15, 15, 15, 15, 15, 15, 15, 15, -1)
	leads(t, deep(), api.CmdBackStep, -1, 0, 1, 2, 3, 4, 5, 6, 7, 8, 9, 10, 11, 12, 13, 14)
	leads(t, deep(), api.CmdBackNext, -1, 0, 1, 2, 3, 4, 3, 1, 7, 8, 9, 10, 9, 7, 13, 14)
	leads(t, deep(), api.CmdBackFinish, -1, 0, 1, 1, 3, 3, 1, 0, 7, 7, 9, 9, 7, 0, 0, 0)
	leads(t, deep(), api.CmdBackContinue, -1, 0, 0, 0, 0, 0, 0, 0, 0, 0, 0, 0, 0, 0, 0, 0)
	leads(t, falls(), api.CmdNext, 1, 4, 3, 4, 6, 6, -1)
	leads(t, falls(), api.CmdFinish, 6, 6, 4, 4, 6, 6, -1)
	leads(t, falls(), api.CmdBackNext, -1, 0, 1, 2, 1, 4, 5)
	leads(t, falls(), api.CmdBackFinish, -1, 0, 1, 1, 0, 4, 4)
	leads(t, unmarked(), api.CmdNext, 1, 2, 3, 4, 9, 6, 7, 8, 9, -1)
	leads(t, unmarked(), api.CmdFinish, 4, 4, 4, 4, 9, 9, 9, 9, 9, -1)
}

// P15.2: a breakpoint at the cursor does not hold there, be it gone forth or back; it does where it is come to again.
func TestBreakAtCursor(t *testing.T) {
	p := pairOf(t, example())
	p.do(breakCmd(4, ""), gotoCmd(4))
	p.expectAt(cmd(api.CmdContinue), fine, 6)
	p.expectAt(cmd(api.CmdBackContinue), fine, 4)
	p.expectAt(cmd(api.CmdBackContinue), fine, 2)
	p.expectAt(cmd(api.CmdBackContinue), fine, 0)
	p.do(breakCmd(2, ""))
	p.expectAt(cmd(api.CmdContinue), fine, 2)
	p.expectAt(cmd(api.CmdBackContinue), fine, 0)
	p = pairOf(t, example())
	p.do(breakCmd(2, ""))
	p.expectAt(cmd(api.CmdContinue), fine, 9)
	p.expectAt(cmd(api.CmdBackContinue), fine, 0)
}

// P15.2: a breakpoint holds in the innermost frame alone, by its line, be it in which function it may; no other line of a frame outside does.
func TestInnermostAlone(t *testing.T) {
	p := pairOf(t, deep())
	p.do(breakCmd(12, ""), gotoCmd(15))
	p.expectAt(cmd(api.CmdBackContinue), fine, 1)
	p.do(breakCmd(7, "n == 2"), breakCmd(3, "i == 0"))
	p.expectAt(cmd(api.CmdContinue), fine, 9)
	p.expectAt(cmd(api.CmdContinue), fine, 15)
}

// P15.2: Next over a call in which a breakpoint stands and a watch changes goes on; so does BackNext, and Finish.
func TestNextOverBreak(t *testing.T) {
	p := pairOf(t, deep())
	p.do(breakCmd(2, ""), breakCmd(7, ""), watchCmd("n"), gotoCmd(1))
	p.expectAt(cmd(api.CmdNext), fine, 7)
	p.expectAt(cmd(api.CmdBackNext), fine, 1)
	p.do(gotoCmd(2))
	p.expectAt(cmd(api.CmdFinish), fine, 7)
	p.do(gotoCmd(12))
	p.expectAt(cmd(api.CmdBackFinish), fine, 7)
	p.do(gotoCmd(1))
	p.expectAt(cmd(api.CmdContinue), fine, 2)
	p.expectAt(cmd(api.CmdContinue), fine, 3)
	p.expectAt(cmd(api.CmdContinue), fine, 4)
}

// P15.2: Finish of the outermost frame goes to the end, whatever stands between; BackFinish to 0.
func TestFinishOutermost(t *testing.T) {
	for _, w := range works() {
		p := pairOf(t, w)
		p.do(breakCmd(4, ""), watchCmd("i"))
		for at := range p.m.looks {
			if p.m.depth(at) != 1 {
				continue
			}
			p.do(gotoCmd(at))
			if at < p.m.last() {
				p.expectAt(cmd(api.CmdFinish), fine, p.m.last())
				p.do(gotoCmd(at))
			}
			if at > 0 {
				p.expectAt(cmd(api.CmdBackFinish), fine, 0)
			}
		}
	}
}

// P15.2: Goto, in a run that has not been gone through to its end, and in one that has.
func TestGoto(t *testing.T) {
	for _, first := range []int{0, 5, 9} {
		for _, x := range []struct {
			n    int
			want api.Reply
			at   int
		}{
			{-1, failed(api.ErrArg), first}, {math.MinInt, failed(api.ErrArg), first}, {-1 << 32, failed(api.ErrArg), first},
			{0, fine, 0}, {1, fine, 1}, {first, fine, first}, {8, fine, 8}, {9, fine, 9},
			{10, failed(api.ErrEnd), first}, {11, failed(api.ErrEnd), first}, {1 << 32, failed(api.ErrEnd), first}, {1<<32 + 1, failed(api.ErrEnd), first}, {math.MaxInt, failed(api.ErrEnd), first},
		} {
			p := pairOf(t, example())
			p.do(gotoCmd(first))
			p.expectAt(gotoCmd(x.n), x.want, x.at)
			p.do(gotoCmd(first))
			p.expectAt(gotoCmd(x.n), x.want, x.at)
		}
	}
}

// watcher has a watch's text come to another at 1, where it is there first, at 4, where a fault goes by, and at the end, where it is there no more: i is ? 0 0 1 1 1 2 2 ?, at the positions 0 to 8.
func watcher() work {
	return compiled(wide, nil, "fn main() {", "let i = 0;", "print(i);", "i = i + 1;", "print(i);", "print(i);", "i = i + 1;", "print(i);", "print(i);", "}")
}

// P15.2: a watch stops where its text is another than at the position ahead of it: at 1, at the last one, never at 0.
func TestWatch(t *testing.T) {
	p := pairOf(t, watcher())
	p.do(watchCmd("i"))
	for _, at := range []int{1, 3, 6, 8} {
		p.expectAt(cmd(api.CmdContinue), fine, at)
	}
	for _, at := range []int{6, 3, 1, 0} {
		p.expectAt(cmd(api.CmdBackContinue), fine, at)
	}
	p.expectAt(cmd(api.CmdBackContinue), failed(api.ErrEnd), 0)
	for from, to := range []int{1, 3, 3, 6, 6, 6, 8, 8} {
		p.do(gotoCmd(from))
		p.expectAt(cmd(api.CmdContinue), fine, to)
	}
	for from, to := range []int{0, 1, 1, 3, 3, 3, 6, 6} {
		p.do(gotoCmd(from + 1))
		p.expectAt(cmd(api.CmdBackContinue), fine, to)
	}
}

// P15.2: a watch that comes to an error, and then to none, and back; errors of different kinds are the same to it.
func TestWatchError(t *testing.T) {
	p := pairOf(t, watcher()) // 2 / i is ? ? ? 2 2 2 1 1 ?, of which the first ? is no name, and the others a division by 0
	p.do(watchCmd("2 / i"))
	for _, at := range []int{3, 6, 8} {
		p.expectAt(cmd(api.CmdContinue), fine, at)
	}
	for _, at := range []int{6, 3, 0} {
		p.expectAt(cmd(api.CmdBackContinue), fine, at)
	}
	p.do(idCmd(api.CmdDelete, 1), watchCmd("2 / (i - 1)")) // ? -2 -2 ? ? ? 2 2 ?
	for _, at := range []int{1, 3, 6, 8} {
		p.expectAt(cmd(api.CmdContinue), fine, at)
	}
	p.do(idCmd(api.CmdDelete, 2), watchCmd("zz"), watchCmd("1"), watchCmd("1 / 0"), watchCmd("\"?\""), gotoCmd(0))
	p.expectAt(cmd(api.CmdContinue), fine, 8)
	p.expectAt(cmd(api.CmdBackContinue), fine, 0)
}

// P15.2: a watch is of the innermost frame: where another function begins or ends, its text may be another one.
func TestWatchFrames(t *testing.T) {
	p := pairOf(t, deep())
	p.do(watchCmd("n")) // ? ? 1 1 2 2 1 ? 2 2 3 3 2 ? ? ?
	for _, at := range []int{2, 4, 6, 7, 8, 10, 12, 13, 15} {
		p.expectAt(cmd(api.CmdContinue), fine, at)
	}
	for _, at := range []int{13, 12, 10, 8, 7, 6, 4, 2, 0} {
		p.expectAt(cmd(api.CmdBackContinue), fine, at)
	}
}

// P15.2: a watch looks into the heap, where another function writes, too.
func TestWatchHeap(t *testing.T) {
	w := compiled(wide, nil, "fn set(l: [int], n: int) {", "l[0] = n;", "}", "fn main() {", "let l = [1, 2];", "set(l, 1);", "set(l, 5);", "print(l);", "}")
	p := pairOf(t, w) // 0 main, 1 main with l, 2 set, 3 main, 4 set, 5 main with another l[0], 6 the end
	p.do(watchCmd("l[0]"))
	for _, at := range []int{1, 5, 6} {
		p.expectAt(cmd(api.CmdContinue), fine, at)
	}
	for _, at := range []int{5, 1, 0} {
		p.expectAt(cmd(api.CmdBackContinue), fine, at)
	}
	p.do(watchCmd("n"), watchCmd("l"))
	for _, at := range []int{1, 2, 3, 4, 5, 6} {
		p.expectAt(cmd(api.CmdContinue), fine, at)
	}
}

// P15.2: of several watches one is enough, the first, the last, or one in between; and none, where two have changed places.
func TestSeveralWatches(t *testing.T) {
	w := compiled(wide, nil, "fn main() {", "let a = 1; let b = 2; let c = 1;", "a = 7;", "b = 7;", "c = 7;", "a = a;", "print(a);", "}")
	p := pairOf(t, w) // a at 1 and 4, b at 2 and 5, c at 3 and 6, the end at 8
	p.do(watchCmd("a"), watchCmd("b"), watchCmd("c"))
	for _, at := range []int{1, 2, 3, 4, 5, 6, 8} {
		p.expectAt(cmd(api.CmdContinue), fine, at)
	}
	p.do(idCmd(api.CmdDisable, 1), idCmd(api.CmdDisable, 3), gotoCmd(0))
	for _, at := range []int{2, 5, 8} {
		p.expectAt(cmd(api.CmdContinue), fine, at)
	}
	p.do(idCmd(api.CmdDisable, 2), idCmd(api.CmdEnable, 3), gotoCmd(7))
	for _, at := range []int{6, 3, 0} {
		p.expectAt(cmd(api.CmdBackContinue), fine, at)
	}
}

// P15.2: of as many watches as there may be each is enough.
func TestManyWatches(t *testing.T) {
	for n := range 16 {
		p := pairOf(t, watcher())
		for i := range 16 {
			p.do(watchCmd(map[bool]string{true: "i", false: "1"}[i == n]))
		}
		for _, at := range []int{1, 3, 6, 8} {
			p.expectAt(cmd(api.CmdContinue), fine, at)
		}
		for _, at := range []int{6, 3, 1, 0} {
			p.expectAt(cmd(api.CmdBackContinue), fine, at)
		}
	}
}

// P15.2: stops that are off hold nowhere; turned on again they do.
func TestOff(t *testing.T) {
	p := pairOf(t, example())
	p.do(breakCmd(4, ""), watchCmd("i"), idCmd(api.CmdDisable, 1))
	p.expectAt(cmd(api.CmdContinue), fine, 1) // the watch
	p.do(idCmd(api.CmdDisable, 2))
	p.expectAt(cmd(api.CmdContinue), fine, 9)
	p.expectAt(cmd(api.CmdBackContinue), fine, 0)
	p.do(idCmd(api.CmdEnable, 1))
	p.expectAt(cmd(api.CmdContinue), fine, 2)
	p.do(idCmd(api.CmdDelete, 1))
	p.expectAt(cmd(api.CmdContinue), fine, 9)
	p.do(idCmd(api.CmdEnable, 2))
	p.expectAt(cmd(api.CmdBackContinue), fine, 7)
	p.expectAt(idCmd(api.CmdEnable, 1), failed(api.ErrNone), 7)
	p.expectAt(idCmd(api.CmdDisable, 0), failed(api.ErrNone), 7)
	p.expectAt(idCmd(api.CmdDelete, -1), failed(api.ErrNone), 7)
}

// P15.2: two stops at one position, and a breakpoint where a watch changes, are one position alone.
func TestTwoStops(t *testing.T) {
	p := pairOf(t, example())
	p.do(breakCmd(3, "i > 0"), breakCmd(3, ""), watchCmd("i"), watchCmd("i * 2"))
	for _, at := range []int{1, 3, 5, 7, 9} {
		p.expectAt(cmd(api.CmdContinue), fine, at)
	}
	p.do(idCmd(api.CmdDelete, 2), idCmd(api.CmdDelete, 3))
	for _, at := range []int{7, 5, 3, 1, 0} {
		p.expectAt(cmd(api.CmdBackContinue), fine, at)
	}
}

// P15.2: a fault's position meets the breakpoint of its line; it is the last one all the same. An end that is done has no frame, and no line.
func TestStopsAtEnd(t *testing.T) {
	p := pairOf(t, falls())
	p.do(breakCmd(2, "n == 0"), gotoCmd(2))
	p.expectAt(cmd(api.CmdContinue), fine, 5)
	p.expectAt(cmd(api.CmdContinue), fine, 6)
	p.expectAt(cmd(api.CmdBackContinue), fine, 5)
	p.expectAt(cmd(api.CmdBackContinue), fine, 0)
	p = pairOf(t, unmarked())
	p.do(breakCmd(2, ""), breakCmd(1<<40, "i == 1"), breakCmd(1<<40, "true"))
	for _, at := range []int{2, 3, 4, 7, 8, 9} { // at 3, 8 line 2 of f; at 4 of main
		p.expectAt(cmd(api.CmdContinue), fine, at)
	}
}

// P15.3: Up and Down, to the outermost and the innermost frame and beyond; where the run has ended.
func TestUpDown(t *testing.T) {
	p := pairOf(t, deep())
	p.expectAt(cmd(api.CmdUp), failed(api.ErrNone), 0)
	p.expectAt(cmd(api.CmdDown), failed(api.ErrNone), 0)
	p.do(gotoCmd(5))
	for _, x := range []struct {
		k    api.CmdKind
		want api.Reply
		sel  int
	}{
		{api.CmdDown, failed(api.ErrNone), 0}, {api.CmdUp, fine, 1}, {api.CmdDown, fine, 0}, {api.CmdDown, failed(api.ErrNone), 0},
		{api.CmdUp, fine, 1}, {api.CmdUp, fine, 2}, {api.CmdUp, failed(api.ErrNone), 2}, {api.CmdUp, failed(api.ErrNone), 2}, {api.CmdDown, fine, 1},
	} {
		p.expectAt(cmd(x.k), x.want, 5)
		expect(t, p.what+": Sel", p.d.View().Sel, x.sel)
	}
	p.do(gotoCmd(15))
	p.expectAt(cmd(api.CmdUp), failed(api.ErrNone), 15)
	p.expectAt(cmd(api.CmdDown), failed(api.ErrNone), 15)
	p = pairOf(t, falls())
	p.do(gotoCmd(6))
	p.expectAt(cmd(api.CmdUp), fine, 6)
	p.expectAt(printCmd("i"), api.Reply{Says: "1"}, 6)
	p.expectAt(cmd(api.CmdUp), failed(api.ErrNone), 6)
}

// P15.2: each move that is done selects the innermost frame, also Goto of where the cursor is; one that is refused, and a command that moves not, leaves the frame selected.
func TestSelBehind(t *testing.T) {
	w := falls()
	y := through(w)
	up := func(at int) *pair {
		p := newPair(t, w, y, 3, 4)
		p.do(gotoCmd(at), cmd(api.CmdUp))
		expect(t, p.what+": Sel", p.d.View().Sel, 1)
		return p
	}
	for _, c := range []api.Cmd{cmd(1), cmd(2), cmd(3), cmd(4), cmd(5), cmd(6), cmd(7), cmd(8), gotoCmd(0), gotoCmd(6), gotoCmd(2), gotoCmd(3)} {
		p := up(3)
		p.do(c)
		expect(t, p.what+": the error", p.m.reply, fine)
		expect(t, p.what+": Sel", p.d.View().Sel, 0)
	}
	for _, c := range []api.Cmd{cmd(1), cmd(2), cmd(3), cmd(4), gotoCmd(-1), gotoCmd(7), gotoCmd(math.MaxInt), {Kind: 1, N: 1}, {Kind: 5, S: "i"}, cmd(0), cmd(18), cmd(api.CmdUp), printCmd("zz"), printCmd("1 +"), printCmd("n"), breakCmd(0, ""), breakCmd(1, "1 +"), watchCmd(""), idCmd(api.CmdDelete, 1), idCmd(api.CmdEnable, 1), idCmd(api.CmdDisable, 1)} {
		p := up(6)
		p.do(c)
		expect(t, p.what+": is it refused?", p.m.reply.Err != api.OK, true)
		expect(t, p.what+": Sel", p.d.View().Sel, 1)
		p.expectAt(printCmd("i"), api.Reply{Says: "1"}, 6)
		p.expectAt(cmd(api.CmdDown), fine, 6)
		p.expectAt(printCmd("n"), api.Reply{Says: "0"}, 6)
	}
	for _, c := range []api.Cmd{breakCmd(1, ""), watchCmd("i"), printCmd("i")} {
		p := up(6)
		p.do(c)
		expect(t, p.what+": the error", p.m.reply.Err, api.OK)
		expect(t, p.what+": Sel", p.d.View().Sel, 1)
	}
}

// P15.3: what Print tells: over the frame that is selected, of a text that is wrong, and where the run is done.
func TestPrint(t *testing.T) {
	p := pairOf(t, deep())
	p.do(gotoCmd(5))
	says := func(s, want string) {
		t.Helper()
		p.expectAt(printCmd(s), api.Reply{Says: want}, p.m.at)
	}
	fails := func(s string, want api.Errno) {
		t.Helper()
		p.expectAt(printCmd(s), failed(want), p.m.at)
	}
	says("n", "2")
	says("m + n", "6")
	fails("a", api.ErrName)
	fails("i", api.ErrName)
	p.do(cmd(api.CmdUp))
	says("n", "1")
	says("a", "2")
	fails("m", api.ErrName)
	fails("b", api.ErrName)
	p.do(cmd(api.CmdUp))
	says("i", "0")
	fails("n", api.ErrName)
	p.do(gotoCmd(15))
	fails("i", api.ErrName)
	says(" 1+1 // two", "2")
	says("\"a\"", `"a"`)
	for s, want := range map[string]api.Errno{
		"": api.ErrSyntax, " ": api.ErrSyntax, "1 +": api.ErrSyntax, "@": api.ErrSyntax, "i = 1": api.ErrSyntax, "a b": api.ErrSyntax, "1 / 0": api.ErrFault, "f(1)": api.ErrType, "[1]": api.ErrType, "-true": api.ErrType, "1 && true": api.ErrType,
		strings.Repeat("-", 24) + "1": api.ErrDeep, strings.Repeat(" ", 4096) + "1": api.ErrBig, strings.Repeat("a", 21): api.ErrBig,
	} {
		fails(s, want)
	}
	w := compiled(wide, nil, "record P { x: int, s: str, l: [int] }", "fn main() {", "let p = new P(3, \"q\", array(100, 1234));", "let l = [p.l, p.l, p.l, p.l, p.l, p.l, p.l];", "}")
	p = pairOf(t, w)
	p.do(gotoCmd(1))
	says("p", `P(3, "q", [1234, 1234, 1234, 1234, 1234, 1234, 1234, 1234, ...])`)
	says("p.s + str(p.l[99])", `"q1234"`)
	fails("p.zz", api.ErrName)
	fails("p.l[100]", api.ErrFault)
	p.do(cmd(api.CmdStep))
	expect(t, "the test's own: the status", p.m.looks[2].Status, api.Done)
	fails("l", api.ErrName)
}

// P15.3: what is shown is cut at MaxShow bytes, as the heap has it.
func TestPrintLong(t *testing.T) {
	w := compiled(wide, nil, "fn main() {", "let s = \""+strings.Repeat("y", 255)+"\";", "print(1);", "}")
	p := pairOf(t, w)
	p.do(cmd(api.CmdStep))
	p.expectAt(printCmd("s"), api.Reply{Says: `"` + strings.Repeat("y", 196) + "..."}, 1)
	expect(t, "the error of what is loaded", mustLoad(t, w, 1, 1, p.d.Save()).View().Last.Err, api.OK)
}

// P15.3: Ids that are given, and not given again.
func TestIds(t *testing.T) {
	p := pairOf(t, example())
	p.expectAt(breakCmd(3, ""), api.Reply{N: 1}, 0)
	p.expectAt(watchCmd("i"), api.Reply{N: 2}, 0)
	p.expectAt(breakCmd(math.MaxInt, "i == 1"), api.Reply{N: 3}, 0)
	p.expectAt(idCmd(api.CmdDelete, 3), fine, 0)
	p.expectAt(idCmd(api.CmdDelete, 3), failed(api.ErrNone), 0)
	p.expectAt(watchCmd(""), failed(api.ErrSyntax), 0)
	p.expectAt(watchCmd("zz"), api.Reply{N: 4}, 0)
	for id := 5; len(p.m.stops) < 16; id++ {
		p.expectAt(breakCmd(id, ""), api.Reply{N: id}, 0)
	}
	p.expectAt(watchCmd("i"), failed(api.ErrFull), 0)
	p.expectAt(breakCmd(1, ""), failed(api.ErrFull), 0)
	p.do(idCmd(api.CmdDelete, 1))
	p.expectAt(watchCmd("i"), api.Reply{N: 18}, 0)
}

// P15.6: BackStep behind Step, and Step behind BackStep, at each position of each run: all is as it was, but for Sel and Last.
func TestStepAndBack(t *testing.T) {
	for _, w := range works() {
		y := through(w)
		for _, x := range []struct{ every, most int }{{1, 64}, {4, 3}, {99, 1}} {
			d := mustNew(t, w, x.every, x.most)
			for _, c := range []api.Cmd{breakCmd(4, ""), watchCmd("i"), idCmd(api.CmdDisable, 2)} {
				d.Do(c)
			}
			for at := range y.looks {
				d.Do(gotoCmd(at))
				d.Do(cmd(api.CmdUp))
				was, heap := d.View(), heapTold(d.Heap())
				expectBack := func(one, other api.CmdKind) {
					t.Helper()
					what := fmt.Sprintf("%.300s: at %d, %d and %d", w.name, at, one, other)
					expect(t, what, d.Do(cmd(one)), fine)
					expect(t, what, d.Do(cmd(other)), fine)
					v := d.View()
					expect(t, what+": Look", told(v.Look), told(was.Look))
					expect(t, what+": Stops", told(v.Stops), told(was.Stops))
					expect(t, what+": Heap", heapTold(d.Heap()), heap)
					expect(t, what+": Sel", v.Sel, 0)
				}
				if at < y.last() {
					expectBack(api.CmdStep, api.CmdBackStep)
				}
				if at > 0 {
					expectBack(api.CmdBackStep, api.CmdStep)
				}
			}
			if t.Failed() {
				t.FailNow()
			}
		}
	}
}

// P15.7: what is refused at each position of each run changes nothing but Last, whatever frame is selected.
func TestRefusedEverywhere(t *testing.T) {
	refused := []api.Cmd{
		cmd(0), cmd(18), {Kind: api.CmdStep, N: 1}, {Kind: api.CmdBackContinue, S: "i"}, gotoCmd(-1), gotoCmd(math.MaxInt), {Kind: api.CmdGoto, N: 1, S: "i"},
		breakCmd(0, ""), breakCmd(1, "1 +"), watchCmd(""), watchCmd("@"), {Kind: api.CmdWatch, N: 1, S: "i"}, idCmd(api.CmdDelete, 9), idCmd(api.CmdEnable, 0), idCmd(api.CmdDisable, -1), {Kind: api.CmdDelete, N: 1, S: "i"},
		{Kind: api.CmdUp, N: 1}, {Kind: api.CmdDown, S: "i"}, printCmd("zz"), printCmd("1 +"), printCmd("1 / 0"), {Kind: api.CmdPrint, N: 1, S: "1"},
	}
	for _, w := range works() {
		p := pairOf(t, w)
		name := p.what
		p.do(breakCmd(4, ""), watchCmd("i"))
		for at := range p.m.looks {
			for sel := range min(3, max(1, len(p.m.looks[at].Frames))) {
				p.what = name
				p.do(gotoCmd(at), gotoCmd(p.m.last()+1))
				for range sel {
					p.do(cmd(api.CmdUp))
				}
				was := p.d.Save()
				for _, c := range append(refused, gotoCmd(p.m.last()+1)) {
					expect(t, p.what+": is it refused?", p.d.Do(c).Err != api.OK, true)
					p.m.do(c)
					s := p.d.Save()
					s.Last = was.Last
					expect(t, p.what+told(c)+": Save, but for Last", told(s), told(was))
				}
				expectSame(t, p.what, p.d, p.m)
			}
		}
	}
}

// What is asked, but for commands, changes nothing.
func TestAskedOrNot(t *testing.T) {
	w := deep()
	asked, quiet := mustNew(t, w, 3, 3), mustNew(t, w, 3, 3)
	for _, c := range []api.Cmd{watchCmd("n"), cmd(4), cmd(4), cmd(api.CmdUp), cmd(2), cmd(8), gotoCmd(12), cmd(api.CmdUp), printCmd("i"), cmd(7), cmd(3), cmd(6)} {
		for range 3 {
			asked.View()
			asked.Save()
			asked.Heap()
		}
		expect(t, told(c), asked.Do(c), quiet.Do(c))
	}
	expect(t, "View", told(asked.View()), told(quiet.View()))
	expect(t, "steps of the run", asked.run.Steps(), quiet.run.Steps())
}

// A long run is gone through forth and back, whatever is kept of it; back it comes to no position more than twice, and to few, where what is looked for is near.
func TestLong(t *testing.T) {
	w := compiled(api.Limits{Steps: 1 << 32, Frames: 3, Out: 9}, nil, "fn f(n: int): int {", "return n + 1;", "}", "fn main() {", "let i = 0;", "while i < 5000 {", "i = f(i);", "}", "print(i);", "}")
	for _, x := range []struct{ every, most int }{{1, 64}, {100, 64}, {1000, 3}, {1 << 32, 1}} {
		d := mustNew(t, w, x.every, x.most)
		const last = 15003 // 0, then 3 for each i, the last while, print, the end
		expect(t, "Finish", d.Do(cmd(api.CmdFinish)), fine)
		expect(t, "the last position", d.View().Look.Pos, last)
		d.Do(breakCmd(2, "n == 7"))
		d.Do(watchCmd("i / 5000 + 1"))
		for _, m := range []struct {
			k  api.CmdKind
			at int
		}{{8, 15001}, {7, 0}, {4, 1}, {4, 3}, {4, 4}, {3, 15003}, {6, 15002}, {6, 15001}, {6, 14999}} {
			ahead := d.run.Steps()
			expect(t, "a move", d.Do(cmd(m.k)), fine)
			expect(t, "where it leads", d.View().Look.Pos, m.at)
			n := d.run.Steps() - ahead
			if isNear := m.k == api.CmdBackNext && x.most == 64; n > 2*last || isNear && n > last/5 {
				t.Errorf("every %d, most %d, command %d: %d steps", x.every, x.most, m.k, n)
			}
		}
		d.Do(idCmd(api.CmdDelete, 2))
		expect(t, "BackContinue", d.Do(cmd(8)), fine)
		expect(t, "where it leads", d.View().Look.Pos, 3*7+3)
	}
}
