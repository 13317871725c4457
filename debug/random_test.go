package debug

import (
	"fmt"
	"math"
	"math/rand/v2"
	"slices"
	"strings"
	"testing"

	"hindcast/api"
)

// chance tells things by chance, the same each time.
type chance struct{ *rand.Rand }

func newChance(n, seed int) chance { return chance{rand.New(rand.NewPCG(uint64(n), uint64(seed)))} }

func one[T any](c chance, l ...T) T { return l[c.IntN(len(l))] }

// text tells an expression's text over names that frames have, or other ones; now and then what is none.
func (c chance) text(l []api.Frame) string {
	if c.IntN(12) == 0 {
		return one(c, "", " ", "1 +", "a b", "@", "n;", strings.Repeat("-", 24)+"1", "9223372036854775808")
	}
	leaf := func() string {
		if len(l) > 0 && c.IntN(2) == 0 {
			if vars := one(c, l...).Vars; len(vars) > 0 {
				return one(c, vars...).Name
			}
		}
		return one(c, "i", "i", "i", "n", "n", "n", "k", "m", "a", "b", "l", "p", "q", "s", "zz", "0", "1", "2", "true", "\"ab\"", "l[0]", "l[i]", "p.x", "p.s", "q.b", "len(l)", "len(s)", "b[1]")
	}
	switch c.IntN(5) {
	case 0, 1:
		return leaf()
	case 2:
		return leaf() + one(c, " + ", " - ", " * ", " / ", " % ") + leaf()
	}
	return leaf() + one(c, " == ", " != ", " < ", " <= ", " > ", " >= ", " && ") + leaf()
}

// frames tells those of any position.
func (c chance) frames(m *model) []api.Frame { return m.looks[c.IntN(m.last()+1)].Frames }

// line tells a line in which a frame of the run stands somewhere, or another one.
func (c chance) line(m *model) int {
	if c.IntN(6) == 0 {
		return one(c, 0, -1, 1, 2, 3, 99, math.MaxInt, math.MinInt)
	}
	if l := c.frames(m); len(l) > 0 {
		return one(c, l...).Line
	}
	return 1
}

// id tells an Id that is there, was there, or never will be.
func (c chance) id(m *model) int {
	if l := m.table(); len(l) > 0 && c.IntN(4) > 0 {
		return one(c, l...).Id
	}
	return one(c, 0, -1, 1, m.next-1, m.next, m.next+1, math.MaxInt)
}

// place tells where Goto is sent, near or far, and beyond the ends.
func (c chance) place(m *model) int {
	return one(c, c.IntN(m.last()+1), c.IntN(m.last()+1), c.IntN(m.last()+1), m.at, m.at+1, m.at-1, 0, m.last(), m.last()+1, m.last()+one(c, 2, 1000), -1, math.MinInt, math.MaxInt, 1<<32)
}

// command tells a command, now and then what is none.
func (c chance) command(m *model) api.Cmd {
	if c.IntN(30) == 0 {
		return api.Cmd{Kind: one(c, api.CmdKind(c.IntN(22)-2), math.MinInt, math.MaxInt), N: one(c, 0, 0, 1, -1), S: one(c, "", "", "i", " ")}
	}
	if c.IntN(2) == 0 {
		return cmd(one[api.CmdKind](c, 1, 2, 3, 4, 4, 4, 5, 6, 7, 8, 8, 8))
	}
	if m.sel > 0 && c.IntN(4) == 0 {
		return cmd(api.CmdDown)
	}
	k := one[api.CmdKind](c, 9, 9, 9, 10, 10, 10, 11, 11, 12, 13, 13, 14, 15, 15, 16, 17, 17)
	x := cmd(k)
	switch k {
	case api.CmdGoto:
		x.N = c.place(m)
	case api.CmdBreak:
		x.N = c.line(m)
		if c.IntN(2) == 0 {
			x.S = c.text(c.frames(m))
		}
	case api.CmdWatch:
		x.S = c.text(c.frames(m))
	case api.CmdPrint:
		x.S = c.text(m.looks[m.at].Frames)
	case api.CmdDelete, api.CmdEnable, api.CmdDisable:
		x.N = c.id(m)
	}
	return x
}

// tally tells how often each kind of a command was answered what.
type tally map[string]int

func (n tally) note(c api.Cmd, r api.Reply) { n[fmt.Sprint(int(c.Kind), " ", int(r.Err))]++ }

// P15.2 to P15.8: rows of commands by chance over runs of all sorts, held against the model; now and then the debugger is one that is loaded of what it saved.
func TestByChance(t *testing.T) {
	all := works()
	ways := make([]*way, len(all))
	for i, w := range all {
		ways[i] = through(w)
	}
	n, held := tally{}, 0
	for seed := range 1500 {
		c := newChance(1, seed)
		at := c.IntN(len(all))
		w := all[at]
		p := newPair(t, w, ways[at], one(c, 1, 2, 3, 5, 8, 1+c.IntN(30), 1<<32), one(c, 0, 1, 2, 3, 5, 64))
		p.what = fmt.Sprintf("seed %d: %s", seed, p.what)
		for range 40 {
			x := c.command(p.m)
			p.do(x)
			n.note(x, p.m.reply)
			if (x.Kind == api.CmdContinue || x.Kind == api.CmdBackContinue) && p.m.reply.Err == api.OK && p.m.at > 0 && p.m.at < p.m.last() {
				held++
			}
			if c.IntN(20) == 0 {
				p = p.loaded(w, 1+c.IntN(9), c.IntN(9))
			}
		}
	}
	if held < 3000 {
		t.Error("too few positions stop in the midst of a run:", held)
	}
	for _, want := range []string{
		"1 0", "1 13", "2 0", "2 13", "3 0", "3 13", "4 0", "4 13", "5 0", "5 13", "6 0", "6 13", "7 0", "7 13", "8 0", "8 13", "9 0", "9 2", "9 13", "0 2", "18 2", "1 2",
		"10 0", "10 2", "10 6", "11 0", "11 6", "11 7", "11 5", "12 0", "12 10", "13 0", "13 10", "14 0", "14 10", "15 0", "15 10", "16 0", "16 10", "17 0", "17 6", "17 8", "17 9",
	} {
		if n[want] < 5 {
			t.Errorf("kind and error %s: %d times only: %v", want, n[want], n)
		}
	}
}

// P15.2: where each move leads from each position, with many stops by chance.
func TestEveryMove(t *testing.T) {
	all := works()
	ways := make([]*way, len(all))
	for i, w := range all {
		ways[i] = through(w)
	}
	for seed := range 60 {
		c := newChance(2, seed)
		i := seed % len(all)
		p := newPair(t, all[i], ways[i], 1+c.IntN(9), c.IntN(9))
		for range c.IntN(5) {
			p.do(breakCmd(c.line(p.m), one(c, "", c.text(c.frames(p.m)))), watchCmd(c.text(c.frames(p.m))))
		}
		name := p.what
		for at := range ways[i].looks {
			for k := api.CmdStep; k <= api.CmdBackContinue; k++ {
				p.what = fmt.Sprintf("seed %d: %s: at %d", seed, name, at)
				p.do(gotoCmd(at), cmd(k))
			}
		}
	}
}

// P15.5: what Load tells of many things that might have been saved.
func TestLoadByChance(t *testing.T) {
	all := works()
	fineOnes, bad := 0, 0
	ways := make([]*way, len(all))
	for i, w := range all {
		ways[i] = through(w)
	}
	for seed := range 6000 {
		c := newChance(3, seed)
		i := c.IntN(len(all))
		y := ways[i]
		s := c.saved(y)
		if !mayBeSaved(y, s) {
			bad++
			refuseLoad(t, all[i], 1+c.IntN(9), s, api.ErrFormat)
			continue
		}
		fineOnes++
		m := newModel(y)
		m.at, m.sel, m.next, m.reply = s.Pos, s.Sel, s.Next, s.Last
		for _, x := range s.Stops {
			m.stops[x.Id] = x
		}
		p := &pair{t, fmt.Sprintf("seed %d: %s", seed, told(s)), mustLoad(t, all[i], 1+c.IntN(9), c.IntN(9), s), m}
		expectSame(t, p.what, p.d, p.m)
		for range 4 {
			p.do(c.command(m))
		}
	}
	if fineOnes < 1000 || bad < 1000 {
		t.Error("too few of a kind:", fineOnes, bad)
	}
}

// saved tells what might have been saved of a run, most of which is right.
func (c chance) saved(y *way) api.Saved {
	rare := func() bool { return c.IntN(12) == 0 }
	s := api.Saved{Pos: c.IntN(y.last() + 1), Next: 1 + c.IntN(3)}
	s.Sel = c.IntN(max(1, len(y.looks[s.Pos].Frames)))
	s.Last = api.Reply{Err: api.Errno(c.IntN(19)), N: c.IntN(20), Says: strings.Repeat("é", c.IntN(100))}
	for range one(c, 0, 0, 1, 2, 5, 16) {
		x := api.Stop{Id: s.Next, Off: c.IntN(2) == 0, Watch: one(c, "i", "n", "zz", "l[0]")}
		if c.IntN(2) == 0 {
			x.Line, x.Cond, x.Watch = 1+c.IntN(9), one(c, "", "i > 1", "n == 0"), ""
		}
		s.Stops = append(s.Stops, x)
		s.Next += one(c, 1, 1, 2)
	}
	if rare() {
		s.Pos = one(c, -1, y.last()+1, math.MinInt, math.MaxInt)
	}
	if rare() {
		s.Sel = one(c, -1, s.Sel+1, 64, math.MinInt, math.MaxInt)
	}
	if rare() {
		s.Next = one(c, 0, -1, s.Next-1, 1<<31-1, 1<<31)
	}
	if len(s.Stops) > 0 && rare() {
		x := one(c, api.Stop{Id: 1}, api.Stop{Id: 0, Line: 1}, api.Stop{Id: 1, Line: 1, Watch: "i"}, api.Stop{Id: 1, Watch: "1 +"}, api.Stop{Id: 3, Watch: "i"})
		s.Stops[c.IntN(len(s.Stops))] = x
	}
	if rare() {
		s.Last.Err = one[api.Errno](c, 19, -1, math.MinInt, math.MaxInt)
	}
	if rare() {
		s.Last.N = one(c, -1, math.MinInt, math.MaxInt)
	}
	if rare() {
		s.Last.Says = strings.Repeat("é", 99+c.IntN(4))
	}
	return s
}

// mayBeSaved tells, by the chapter's words, whether that may have been saved.
func mayBeSaved(y *way, s api.Saved) bool {
	if !slices.ContainsFunc(y.looks, func(l api.Look) bool { return l.Pos == s.Pos }) {
		return false
	}
	isThere := s.Sel == 0
	for sel := range y.innermost(s.Pos) {
		isThere = isThere || sel == s.Sel
	}
	ids := []int{0}
	for _, x := range s.Stops {
		ids = append(ids, x.Id)
		isWatch := x.Line == 0 && x.Cond == "" && x.Watch != "" && x.Watch != "1 +"
		isBreak := x.Line > 0 && x.Watch == ""
		if !isWatch && !isBreak {
			return false
		}
	}
	ids = append(ids, s.Next)
	for i, id := range ids[1:] {
		if id <= ids[i] {
			return false
		}
	}
	isNone := s.Last.Err < 0 || s.Last.Err > 18 || s.Last.N < 0 || len(s.Last.Says) > 200
	return isThere && s.Next < 1<<31 && !isNone
}
