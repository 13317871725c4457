package debug

import (
	"fmt"
	"maps"
	"math"
	"slices"
	"strings"
	"testing"

	"hindcast/api"
)

func (m *model) copy() *model {
	other := *m
	other.stops = maps.Clone(m.stops)
	return &other
}

// loaded tells a pair whose debugger is loaded of what this one's saves.
func (p *pair) loaded(w work, every, most int) *pair {
	p.t.Helper()
	q := &pair{p.t, fmt.Sprintf("%s, loaded: every %d, most %d", p.what, every, most), mustLoad(p.t, w, every, most, p.d.Save()), p.m.copy()}
	expectSame(p.t, q.what, q.d, q.m)
	return q
}

// P15.4, P15.5, P15.8: Save and Load at each position of each run, each frame selected: what is loaded shows the same, and does as the other one does.
func TestThereAndBack(t *testing.T) {
	behind := [][]api.Cmd{
		{cmd(1), cmd(8), cmd(4)}, {cmd(3), cmd(7)}, {cmd(2), cmd(6), watchCmd("n")}, {cmd(api.CmdUp), printCmd("i"), cmd(5)}, {cmd(api.CmdDown), printCmd("i"), cmd(4)}, {cmd(8), breakCmd(3, ""), cmd(4)}, {idCmd(api.CmdEnable, 2), cmd(4), cmd(5)},
	}
	for _, w := range works() {
		p := pairOf(t, w)
		p.do(breakCmd(4, ""), watchCmd("i"), breakCmd(2, "i > 1"), idCmd(api.CmdDisable, 2), watchCmd("zz"), idCmd(api.CmdDelete, 4))
		name := p.what
		for at := range p.m.looks {
			p.what = name
			p.do(gotoCmd(at))
			q := p.loaded(w, 1+at%5, at%7)
			q.do(behind[at%len(behind)]...)
			if at%9 == 0 {
				p.do(gotoCmd(p.m.last()+1), gotoCmd(at))
				p.loaded(w, 1<<32, 64).do(behind[(at+1)%len(behind)]...)
			}
			for sel := 1; sel < len(p.m.looks[at].Frames); sel++ {
				p.do(cmd(api.CmdUp))
				if sel < 3 || sel+1 == len(p.m.looks[at].Frames) {
					p.loaded(w, 3, 3).do(behind[(at+sel)%len(behind)]...)
				}
			}
		}
	}
}

// P15.4: the last reply is shown and saved, also of what was refused, and loaded.
func TestLast(t *testing.T) {
	w := deep()
	p := pairOf(t, w)
	p.do(gotoCmd(5))
	for _, c := range []api.Cmd{printCmd("n"), printCmd("zz"), breakCmd(3, ""), breakCmd(3, "1 +"), watchCmd("n"), cmd(0), cmd(api.CmdUp), cmd(api.CmdUp), cmd(api.CmdUp), {Kind: 1, N: 1}, gotoCmd(99), gotoCmd(-1), idCmd(api.CmdDelete, 7), printCmd("\"a\""), cmd(1)} {
		p.do(c)
		expect(t, "Last", p.d.View().Last, p.m.reply)
		q := p.loaded(w, 2, 2)
		expect(t, "Last of what is loaded", q.d.View().Last, p.m.reply)
		expect(t, "Save of what is loaded", told(q.d.Save()), told(p.d.Save()))
	}
}

// P15.5: a cursor that is no position, of each run.
func TestLoadCursor(t *testing.T) {
	for _, w := range works() {
		y := through(w)
		for _, pos := range []int{-1, -2, -1 << 32, math.MinInt, y.last() + 1, y.last() + 2, 1 << 32, 1<<32 + 1, math.MaxInt} {
			for _, every := range []int{1, 3, 1 << 32} {
				refuseLoad(t, w, every, api.Saved{Pos: pos, Next: 1}, api.ErrFormat)
			}
		}
		for _, pos := range []int{0, y.last() / 2, y.last()} {
			d := mustLoad(t, w, 3, 3, api.Saved{Pos: pos, Next: 1})
			expect(t, "View", told(d.View()), told(api.View{Look: y.looks[pos]}))
		}
	}
}

// P15.5: a Sel that is no frame's, at each position; at an end that is done there is 0 alone.
func TestLoadSel(t *testing.T) {
	for _, w := range []work{deep(), falls(), unmarked(), example()} {
		y := through(w)
		for at, look := range y.looks {
			n := len(look.Frames)
			for _, sel := range []int{-1, -2, math.MinInt, n, n + 1, n + 64, math.MaxInt} {
				if sel != 0 {
					refuseLoad(t, w, 3, api.Saved{Pos: at, Sel: sel, Next: 1}, api.ErrFormat)
				}
			}
			for sel := range max(1, n) {
				d := mustLoad(t, w, 3, 3, api.Saved{Pos: at, Sel: sel, Next: 1})
				expect(t, "View", told(d.View()), told(api.View{Look: look, Sel: sel}))
			}
		}
	}
}

// P15.5: stops that are no table's, whichever of the table's errors that is.
func TestLoadStops(t *testing.T) {
	row := func(n int) []api.Stop {
		var l []api.Stop
		for i := range n {
			l = append(l, api.Stop{Id: i + 1, Line: 1})
		}
		return l
	}
	for _, x := range []struct {
		l    []api.Stop
		next int
	}{
		{nil, 0}, {nil, -1}, {nil, 1 << 31}, {nil, math.MaxInt}, {row(3), 3}, {row(3), 1}, {row(17), 18}, {row(17), 17}, {row(300), 301},
		{[]api.Stop{{Id: 2, Line: 1}, {Id: 2, Line: 1}}, 9}, {[]api.Stop{{Id: 2, Line: 1}, {Id: 1, Line: 1}}, 9},
		{[]api.Stop{{Id: 0, Line: 1}}, 9}, {[]api.Stop{{Id: -1, Watch: "i"}}, 9}, {[]api.Stop{{Id: 1}}, 9}, {[]api.Stop{{Id: 1, Line: -1}}, 9},
		{[]api.Stop{{Id: 1, Line: 1, Watch: "i"}}, 9}, {[]api.Stop{{Id: 1, Cond: "i", Watch: "i"}}, 9}, {[]api.Stop{{Id: 1, Line: 1, Cond: "1 +"}}, 9}, {[]api.Stop{{Id: 1, Watch: "1 +"}}, 9},
	} {
		refuseLoad(t, deep(), 3, api.Saved{Stops: x.l, Next: x.next}, api.ErrFormat)
		refuseLoad(t, deep(), 3, api.Saved{Pos: 5, Sel: 2, Stops: x.l, Next: x.next, Last: api.Reply{Says: "1"}}, api.ErrFormat)
	}
	for _, x := range []struct {
		l    []api.Stop
		next int
	}{
		{nil, 1}, {nil, 1<<31 - 1}, {row(16), 17}, {row(3), 1<<31 - 1},
		{[]api.Stop{{Id: 5, Line: 1, Cond: " i > 1 // so", Off: true}, {Id: 6, Watch: "zz"}, {Id: 9, Watch: "n", Off: true}}, 10},
	} {
		s := api.Saved{Pos: 5, Sel: 2, Stops: x.l, Next: x.next}
		d := mustLoad(t, deep(), 3, 3, s)
		expect(t, "Save", told(d.Save()), told(s))
		expect(t, "Stops", told(d.View().Stops), told(x.l))
	}
}

// P15.5: a Last that may not be: its error, its number, its text; whatever goes together may.
func TestLoadLast(t *testing.T) {
	w := deep()
	for _, r := range []api.Reply{
		{Err: -1}, {Err: 19}, {Err: 20}, {Err: math.MinInt}, {Err: math.MaxInt}, {N: -1}, {N: math.MinInt}, {Says: strings.Repeat("a", 201)}, {Says: strings.Repeat("é", 101)}, {Says: strings.Repeat("a", 5000)},
		{Err: 19, N: 1, Says: "a"}, {Err: 3, N: -1, Says: "a"}, {Err: 18, N: 5, Says: strings.Repeat("\n", 201)},
	} {
		for _, s := range []api.Saved{{Next: 1, Last: r}, {Pos: 5, Sel: 2, Stops: []api.Stop{{Id: 1, Line: 1}}, Next: 2, Last: r}} {
			refuseLoad(t, w, 3, s, api.ErrFormat)
		}
	}
	var replies []api.Reply
	for e := range api.Errno(19) {
		replies = append(replies, api.Reply{Err: e}, api.Reply{Err: e, N: 7, Says: "a\n"})
	}
	replies = append(replies, api.Reply{N: 1}, api.Reply{N: math.MaxInt}, api.Reply{N: 1 << 31}, api.Reply{Says: strings.Repeat("a", 200)}, api.Reply{Says: strings.Repeat("é", 100)}, api.Reply{Says: "\xff\x00"})
	for _, r := range replies {
		d := mustLoad(t, w, 3, 3, api.Saved{Next: 1, Last: r})
		expect(t, "View's Last", d.View().Last, r)
		expect(t, "Save's Last", d.Save().Last, r)
		d.Do(cmd(1))
		expect(t, "Last behind a command", d.View().Last, fine)
	}
}

// P15.5: New's error comes ahead of what is wrong with what was saved, whatever that is; of that all is one error.
func TestLoadSeveral(t *testing.T) {
	wrong := []func(s *api.Saved){
		func(s *api.Saved) { s.Pos = -1 },
		func(s *api.Saved) { s.Pos = 99 },
		func(s *api.Saved) { s.Sel = -1 },
		func(s *api.Saved) { s.Sel = 3 },
		func(s *api.Saved) { s.Stops = []api.Stop{{Id: 1}} },
		func(s *api.Saved) { s.Next = 0 },
		func(s *api.Saved) { s.Last.Err = 19 },
		func(s *api.Saved) { s.Last.N = -1 },
		func(s *api.Saved) { s.Last.Says = strings.Repeat("a", 201) },
	}
	w := deep()
	bad := w
	bad.lim.Frames = 0
	none := w
	none.code = api.Code{}
	for _, one := range wrong {
		for _, other := range wrong {
			s := api.Saved{Pos: 5, Sel: 2, Stops: []api.Stop{{Id: 3, Watch: "n"}}, Next: 4, Last: api.Reply{N: 3}}
			mustLoad(t, w, 3, 3, s)
			one(&s)
			other(&s)
			refuseLoad(t, w, 3, s, api.ErrFormat)
			refuseLoad(t, w, 0, s, api.ErrArg)
			refuseLoad(t, w, 1<<32+1, s, api.ErrArg)
			refuseLoad(t, bad, 3, s, api.ErrArg)
			refuseLoad(t, none, 3, s, api.ErrArg)
		}
	}
}

// What was saved of one run may be no position of another, nor a frame there.
func TestLoadOther(t *testing.T) {
	d := mustNew(t, deep(), 3, 3)
	d.Do(gotoCmd(11))
	s := d.Save()
	refuseLoad(t, example(), 3, s, api.ErrFormat) // 9 is the last position
	d.Do(gotoCmd(5))
	d.Do(cmd(api.CmdUp))
	mustLoad(t, falls(), 3, 3, d.Save()) // a frame is there
	d.Do(cmd(api.CmdUp))
	refuseLoad(t, falls(), 3, d.Save(), api.ErrFormat)
	short := deep()
	short.lim.Steps = 5
	mustLoad(t, short, 3, 3, api.Saved{Pos: 5, Sel: 2, Next: 1})
	refuseLoad(t, short, 3, api.Saved{Pos: 6, Next: 1}, api.ErrFormat)
}

// What is loaded and what saved it are apart: what is done to one is not done to the other.
func TestApart(t *testing.T) {
	w := deep()
	p := pairOf(t, w)
	p.do(breakCmd(2, ""), watchCmd("n"), gotoCmd(5), cmd(api.CmdUp))
	q := p.loaded(w, 3, 3)
	r := q.loaded(w, 1, 1)
	for _, l := range [][]api.Cmd{{cmd(1)}, {idCmd(api.CmdDisable, 2), cmd(4)}, {idCmd(api.CmdDelete, 1)}, {watchCmd("i"), breakCmd(3, "n == 1"), cmd(8)}, {cmd(api.CmdUp), printCmd("n")}} {
		for i, x := range slices.Backward([]*pair{p, q, r}) {
			x.do(l[i%len(l)])
			for _, other := range []*pair{p, q, r} {
				expectSame(t, other.what+": another one", other.d, other.m)
			}
		}
	}
}
