package travel

import (
	"fmt"
	"math"
	"reflect"
	"slices"
	"testing"

	"hindcast/api"
	"hindcast/vm"
)

// A run hands on just what the chapter lists: what moves its machine would be neither counted nor kept.
func TestFace(t *testing.T) {
	var names []string
	for m := range reflect.TypeFor[*Run]().Methods() {
		names = append(names, m.Name)
	}
	expect(t, "the calls of a run", shown(names), "[At Heap Kept Last Look Seek State Steps]")
	expect(t, "exported fields of a run", len(slices.DeleteFunc(reflect.VisibleFields(reflect.TypeFor[Run]()), func(f reflect.StructField) bool { return !f.IsExported() })), 0)
}

// The chapter's example.
func TestExample(t *testing.T) {
	r := mustNew(t, compiled(nine, wide), 4, 10)
	expectList(t, "Kept at first", r.Kept(), 0)
	expect(t, "Steps at first", r.Steps(), 0)
	expect(t, "Seek(7)", r.Seek(7), 7)
	expectList(t, "Kept behind Seek(7)", r.Kept(), 0, 4)
	expect(t, "Steps behind Seek(7)", r.Steps(), 7)
	expect(t, "Seek(5)", r.Seek(5), 5)
	expectList(t, "Kept behind Seek(5)", r.Kept(), 0, 4)
	expect(t, "Steps behind Seek(5)", r.Steps(), 8)
	expect(t, "Last", r.Last(), 20)
	expectList(t, "Kept behind Last", r.Kept(), 0, 4, 8, 12, 16, 20)
	expect(t, "At behind Last", r.At(), 5)
	expect(t, "Steps behind Last", r.Steps(), 8+15+1)
}

// P12.1: every is from 1 to MaxSteps, whatever most is.
func TestNewEvery(t *testing.T) {
	w := compiled(nine, wide)
	for _, most := range []int{math.MinInt, -1, 0, 1, 2, 64, 65, math.MaxInt} {
		for _, every := range []int{math.MinInt, -1 << 32, -1, 0, 1<<32 + 1, 1 << 33, math.MaxInt} {
			if r, err := New(w.code, w.input, w.lim, every, most); r != nil || err != api.ErrArg {
				t.Errorf("every %d, most %d: error %d, or a run", every, most, err)
			}
		}
		for _, every := range []int{1, 2, 20, 21, 1<<31 - 1, 1 << 31, 1<<32 - 1, 1 << 32} {
			r, err := New(w.code, w.input, w.lim, every, most)
			if r == nil || err != api.OK {
				t.Fatalf("every %d, most %d: error %d, or no run", every, most, err)
			}
			expect(t, "At", r.At(), 0)
			expect(t, "Look", shown(r.Look()), through(w).looks[0])
		}
	}
}

// refused are works of which vm.New makes no machine.
func refused() []work {
	w := compiled(nine, wide, 1, 2)
	with := func(name string, do func(w *work)) work {
		w := w
		w.name, w.code.Units = name, slices.Clone(w.code.Units)
		w.code.Units[0].Ins = slices.Clone(w.code.Units[0].Ins)
		do(&w)
		return w
	}
	return []work{
		with("no unit", func(w *work) { w.code = api.Code{} }),
		with("Main is no unit", func(w *work) { w.code.Main = 1 }),
		with("an instruction that is none", func(w *work) { w.code.Units[0].Ins[1].Op = 35 }),
		with("no return", func(w *work) { w.code.Units[0].Ins = w.code.Units[0].Ins[:3] }),
		with("no positions", func(w *work) { w.lim.Steps = 0 }),
		with("too many positions", func(w *work) { w.lim.Steps = 1<<32 + 1 }),
		with("a heap below 0", func(w *work) { w.lim.Heap = -1 }),
		with("too great a heap", func(w *work) { w.lim.Heap = 4097 }),
		with("no frames", func(w *work) { w.lim.Frames = 0 }),
		with("too many frames", func(w *work) { w.lim.Frames = 65 }),
		with("an output below 0", func(w *work) { w.lim.Out = -1 }),
		with("too great an output", func(w *work) { w.lim.Out = 4097 }),
		with("too many numbers", func(w *work) { w.input = make([]int, 257) }),
	}
}

// P12.1: what vm.New refuses is refused, also where every is wrong, too.
func TestNewRefused(t *testing.T) {
	for _, w := range refused() {
		_, want := vm.New(w.code, w.input, w.lim)
		expect(t, "the test's own: "+w.name, want, api.ErrArg)
		for _, every := range []int{1, 4, 1 << 32, 0, -1, 1<<32 + 1} {
			for _, most := range []int{-1, 0, 1, 10, 65} {
				if r, err := New(w.code, w.input, w.lim, every, most); r != nil || err != want {
					t.Errorf("%s: every %d, most %d: error %d, or a run", w.name, every, most, err)
				}
			}
		}
	}
}

// P12.1: the greatest input and limits that may be.
func TestNewGreatest(t *testing.T) {
	w := compiled("fn main() { let i = 0; while i < 256 { print(input()); i = i + 1; } }", api.Limits{Steps: 1 << 32, Heap: 4096, Frames: 64, Out: 4096})
	w.input = make([]int, 256)
	for i := range w.input {
		w.input[i] = i * i
	}
	p := pairOf(t, w, 100, 64)
	p.seek(700, 50, 770, math.MaxInt, 0)
	p.last()
	w = compiled("fn main() { print(1); }", api.Limits{Steps: 1, Frames: 1})
	p = pairOf(t, w, 1, 1)
	p.seek(1, 2, 0)
	p.last()
}

// P12.5: what is kept, for every of 1 and more, behind each position that is come to.
func TestKeptEvery(t *testing.T) {
	w := count(9)
	for every, want := range map[int][]int{
		1: {0, 1, 2, 3, 4, 5, 6, 7, 8, 9, 10, 11, 12, 13, 14, 15, 16, 17, 18, 19, 20},
		3: {0, 3, 6, 9, 12, 15, 18}, 4: {0, 4, 8, 12, 16, 20}, 5: {0, 5, 10, 15, 20},
		10: {0, 10, 20}, 19: {0, 19}, 20: {0, 20}, 21: {0}, 1 << 31: {0}, 1 << 32: {0},
	} {
		r := mustNew(t, w, every, 64)
		for pos := range 21 {
			r.Seek(pos)
			var come []int
			for _, p := range want {
				if p <= pos {
					come = append(come, p)
				}
			}
			expectList(t, fmt.Sprintf("every %d: at %d", every, pos), r.Kept(), come...)
		}
		r.Seek(99)
		expectList(t, fmt.Sprintf("every %d: beyond the end", every), r.Kept(), want...)
		expect(t, "Steps", r.Steps(), 20)
	}
}

// P12.5: how many are kept, whatever New is handed as most.
func TestKeptMost(t *testing.T) {
	w := count(99) // up to 200
	for _, x := range []struct{ said, most int }{
		{math.MinInt, 1}, {-64, 1}, {-1, 1}, {0, 1}, {1, 1}, {2, 2}, {3, 3}, {63, 63}, {64, 64}, {65, 64}, {66, 64}, {1<<32 + 1, 64}, {math.MaxInt, 64},
	} {
		r := mustNew(t, w, 1, x.said)
		for pos := range 201 {
			r.Seek(pos)
			what := fmt.Sprintf("most %d: at %d", x.said, pos)
			l := r.Kept()
			expect(t, what+": how many", len(l), min(x.most, pos+1))
			expect(t, what+": the first", l[0], 0)
			if x.most > 1 {
				expect(t, what+": the last", l[len(l)-1], pos)
			}
		}
	}
}

// P12.5: which go, written out: they are the store's.
func TestKeptWrittenOut(t *testing.T) {
	for most, want := range map[int][][]int{
		1: {{0}, {0}, {0}, {0}, {0}, {0}},
		2: {{0}, {0, 4}, {0, 8}, {0, 12}, {0, 16}, {0, 20}},
		3: {{0}, {0, 4}, {0, 4, 8}, {0, 8, 12}, {0, 8, 16}, {0, 16, 20}},
		4: {{0}, {0, 4}, {0, 4, 8}, {0, 4, 8, 12}, {0, 8, 12, 16}, {0, 8, 16, 20}},
	} {
		r := mustNew(t, count(9), 4, most)
		for i, l := range want {
			r.Seek(4 * i)
			expectList(t, fmt.Sprintf("most %d: at %d", most, 4*i), r.Kept(), l...)
			r.Seek(4*i + 1)
		}
	}
}

// P12.2: edges of Seek, from each position: below 0, 0, where the run stands, the last one, one above and far above it.
func TestSeekEdges(t *testing.T) {
	w := count(4) // up to 10
	s := through(w)
	for _, every := range []int{1, 3, 4, 5, 10, 11} {
		for _, most := range []int{1, 2, 3, 64} {
			for from := range 11 {
				for _, to := range []int{math.MinInt, -1 << 32, -2, -1, 0, 1, from - 1, from, from + 1, 9, 10, 11, 12, 1 << 32, math.MaxInt} {
					p := newPair(t, w, s, every, most)
					p.seek(from, to, to, from)
				}
			}
		}
	}
}

// P12.2: Seek to positions that are kept, one above and one below each, forth and back.
func TestSeekKept(t *testing.T) {
	w := count(19) // up to 40
	s := through(w)
	for _, most := range []int{1, 2, 3, 4, 5, 64} {
		for _, every := range []int{1, 2, 3, 7, 8} {
			p := newPair(t, w, s, every, most)
			p.seek(37)
			for range 3 {
				for _, pos := range p.m.all() {
					p.seek(37, pos, 37, pos-1, 37, pos+1, 0, pos, 0, pos+1, pos, pos+1, pos-1, pos)
				}
			}
			p.seek(99, 37)
			p.last()
		}
	}
}

// P12.2, P12.7: how many steps there are, written out: forth from where the run stands, though a nearer position is kept; back from the greatest one that is kept.
func TestStepsWrittenOut(t *testing.T) {
	r := mustNew(t, count(9), 4, 10)
	for _, x := range []struct{ seek, at, steps int }{
		{0, 0, 0}, {-5, 0, 0}, {1, 1, 1}, {1, 1, 0}, {3, 3, 2}, {2, 2, 2}, {2, 2, 0}, {4, 4, 2}, {3, 3, 3}, {4, 4, 1},
		{0, 0, 0}, {9, 9, 9}, {8, 8, 0}, {7, 7, 3}, {4, 4, 0}, {3, 3, 3}, {0, 0, 0}, {8, 8, 8}, {5, 5, 1}, {4, 4, 0},
		{99, 20, 16}, {99, 20, 0}, {20, 20, 0}, {21, 20, 0}, {19, 19, 3}, {20, 20, 1}, {16, 16, 0}, {15, 15, 3}, {-1, 0, 0},
		{17, 17, 17}, {17, 17, 0}, {18, 18, 1}, {16, 16, 0}, {math.MaxInt, 20, 4}, {math.MinInt, 0, 0}, {20, 20, 20}, {18, 18, 2},
	} {
		ahead, what := r.Steps(), fmt.Sprintf("Seek(%d) from %d", x.seek, r.At())
		expect(t, what, r.Seek(x.seek), x.at)
		expect(t, what+": At", r.At(), x.at)
		expect(t, what+": Look's position", r.Look().Pos, x.at)
		expect(t, what+": steps", r.Steps()-ahead, x.steps)
	}
}

// P12.2, P12.7: with one kept position alone all is gone from the first one.
func TestStepsOfOne(t *testing.T) {
	for _, most := range []int{math.MinInt, -1, 0, 1} {
		r := mustNew(t, count(9), 1, most)
		for _, x := range []struct{ seek, steps int }{{9, 9}, {8, 8}, {7, 7}, {7, 0}, {12, 5}, {20, 8}, {21, 0}, {19, 19}, {0, 0}, {1, 1}} {
			ahead := r.Steps()
			r.Seek(x.seek)
			expect(t, fmt.Sprintf("Seek(%d): steps", x.seek), r.Steps()-ahead, x.steps)
			expectList(t, "Kept", r.Kept(), 0)
		}
	}
}

// Words: a position is kept when it is come to for the first time, and not again, when its state has gone.
func TestKeptOnce(t *testing.T) {
	r := mustNew(t, count(9), 2, 3)
	r.Seek(12)
	expectList(t, "Kept behind 12", r.Kept(), 0, 8, 12)
	for _, pos := range []int{2, 4, 5, 6, 7, 0, 10, 11, 9, 10, 0, 12, 3} {
		r.Seek(pos)
		expectList(t, fmt.Sprintf("Kept behind %d again", pos), r.Kept(), 0, 8, 12)
	}
	expect(t, "Seek(13)", r.Seek(13), 13)
	expectList(t, "Kept behind 13", r.Kept(), 0, 8, 12)
	r.Seek(14)
	expectList(t, "Kept behind 14", r.Kept(), 0, 8, 14)
	ahead := r.Steps()
	r.Seek(12)
	expect(t, "12 is come to from 8, since its state has gone", r.Steps()-ahead, 4)
	expectList(t, "Kept behind 12, when it has gone", r.Kept(), 0, 8, 14)
}

// P12.3, P12.5: the last position, where it is a multiple of every, and where it is not.
func TestLastKept(t *testing.T) {
	for n := range 12 {
		w := count(n)
		s := through(w)
		expect(t, "the test's own: the last position", s.last(), 2*n+2)
		for every := 1; every <= 2*n+4; every++ {
			r := mustNew(t, w, every, 64)
			expect(t, "Last", r.Last(), 2*n+2)
			l := r.Kept()
			expect(t, fmt.Sprintf("up to %d, every %d: is the last one kept?", 2*n+2, every), slices.Contains(l, 2*n+2), (2*n+2)%every == 0)
			expect(t, "how many are kept", len(l), (2*n+2)/every+1)
			p := newPair(t, w, s, every, 3)
			p.seek(99, 2*n+1, 99, 0, 2*n+2, 2*n+1)
			p.last()
		}
	}
}

// P12.3: Last ahead of all else: where the run stands, what is kept and the steps behind it, and behind a second time.
func TestLastFirst(t *testing.T) {
	r := mustNew(t, count(9), 4, 3)
	for range 3 {
		expect(t, "Last", r.Last(), 20)
		expect(t, "At", r.At(), 0)
		expect(t, "Look", shown(r.Look()), through(count(9)).looks[0])
		expectList(t, "Kept", r.Kept(), 0, 16, 20)
		expect(t, "Steps", r.Steps(), 20)
	}
	expect(t, "Seek", r.Seek(3), 3)
	expect(t, "Steps", r.Steps(), 23)
	expect(t, "Last", r.Last(), 20)
	expect(t, "At", r.At(), 3)
	expect(t, "Steps", r.Steps(), 23)
}

// P12.3: Last behind Seek: in the midst, to the end, beyond it, and where the last position was come to and left again.
func TestLastBehindSeek(t *testing.T) {
	for _, x := range []struct {
		name       string
		seek       []int
		at, ahead  int
		steps      int
		kept, then []int
	}{
		{"in the midst", []int{7}, 7, 7, 13 + 3, []int{0, 4}, []int{0, 4, 8, 12, 16, 20}},
		{"where it is kept", []int{9, 8}, 8, 9, 12, []int{0, 4, 8}, []int{0, 4, 8, 12, 16, 20}},
		{"below what was come to", []int{19, 2}, 2, 21, 18 + 2, []int{0, 4, 8, 12, 16}, []int{0, 4, 8, 12, 16, 20}},
		{"one ahead of the end", []int{19}, 19, 19, 1 + 3, []int{0, 4, 8, 12, 16}, []int{0, 4, 8, 12, 16, 20}},
		{"at the end", []int{20}, 20, 20, 0, []int{0, 4, 8, 12, 16, 20}, []int{0, 4, 8, 12, 16, 20}},
		{"beyond the end", []int{21}, 20, 20, 0, []int{0, 4, 8, 12, 16, 20}, []int{0, 4, 8, 12, 16, 20}},
		{"far beyond the end", []int{math.MaxInt}, 20, 20, 0, []int{0, 4, 8, 12, 16, 20}, []int{0, 4, 8, 12, 16, 20}},
		{"from the end back", []int{20, 5}, 5, 21, 0, []int{0, 4, 8, 12, 16, 20}, []int{0, 4, 8, 12, 16, 20}},
		{"from beyond the end back", []int{99, 5}, 5, 21, 0, []int{0, 4, 8, 12, 16, 20}, []int{0, 4, 8, 12, 16, 20}},
		{"from the end to 0", []int{20, -1}, 0, 20, 0, []int{0, 4, 8, 12, 16, 20}, []int{0, 4, 8, 12, 16, 20}},
	} {
		r := mustNew(t, count(9), 4, 10)
		for _, pos := range x.seek {
			r.Seek(pos)
		}
		expect(t, x.name+": the steps ahead", r.Steps(), x.ahead)
		expectList(t, x.name+": Kept ahead", r.Kept(), x.kept...)
		for range 3 {
			expect(t, x.name+": Last", r.Last(), 20)
			expect(t, x.name+": At", r.At(), x.at)
			expect(t, x.name+": Look", shown(r.Look()), through(count(9)).looks[x.at])
			expectList(t, x.name+": Kept", r.Kept(), x.then...)
			expect(t, x.name+": Steps", r.Steps(), x.ahead+x.steps)
		}
	}
}

// P12.3: Last goes back from what is still kept behind its way: what was kept where it stood may have gone.
func TestLastAndWhatGoes(t *testing.T) {
	r := mustNew(t, count(19), 4, 2) // up to 40
	r.Seek(14)
	expectList(t, "Kept ahead", r.Kept(), 0, 12)
	expect(t, "Last", r.Last(), 40)
	expect(t, "At", r.At(), 14)
	expectList(t, "Kept", r.Kept(), 0, 40)
	expect(t, "Steps", r.Steps(), 14+26+14)
}

// A run that has ended at the position 0.
func TestEndedAtZero(t *testing.T) {
	for _, w := range atZero() {
		s := through(w)
		expect(t, "the test's own: "+w.name, s.last(), 0)
		for _, every := range []int{1, 4, 1 << 32} {
			p := newPair(t, w, s, every, 3)
			p.last()
			p.seek(math.MinInt, -1, 0, 1, 2, 99, math.MaxInt, 0)
			p.last()
			expect(t, p.what+": Steps", p.r.Steps(), 0)
			expectList(t, p.what+": Kept", p.r.Kept(), 0)
			if p.r.Look().Status == api.Running {
				t.Errorf("%s: it is running", p.what)
			}
		}
	}
}

// P12.4, P12.6: each position of runs of all sorts, gone through forth and back, and how they end.
func TestForthAndBack(t *testing.T) {
	for _, w := range programs() {
		s := through(w.work)
		for _, x := range []struct{ every, most int }{{1, 64}, {1, 2}, {3, 4}, {7, 1}, {16, 64}} {
			p := newPair(t, w.work, s, x.every, x.most)
			name := p.what
			for pos := 0; pos <= s.last()+1; pos++ {
				p.what = name + ": forth"
				p.seek(pos)
			}
			expect(t, name+": the fault", p.r.Look().Fault, w.fault)
			expect(t, name+": has it ended?", p.r.Look().Status != api.Running, true)
			for pos := s.last(); pos >= -1; pos-- {
				p.what = name + ": back"
				p.seek(pos)
			}
			p.last()
			p.seek(s.last())
			p.last()
		}
	}
}

// A run that ends for a fault has its last position there, also where it is kept and come to again.
func TestFaulty(t *testing.T) {
	w := compiled("fn main() { while true { } }", api.Limits{Steps: 5, Frames: 1})
	for every := 1; every <= 6; every++ {
		r := mustNew(t, w, every, 9)
		expect(t, "Last", r.Last(), 5)
		expect(t, "Look's fault", r.Look().Fault, api.NoFault)
		for range 2 {
			expect(t, "Seek(6)", r.Seek(6), 5)
			expect(t, "Look's fault", r.Look().Fault, api.FaultSteps)
			expect(t, "Look's status", r.Look().Status, api.Faulty)
			expect(t, "Seek(4)", r.Seek(4), 4)
			expect(t, "Look's status", r.Look().Status, api.Running)
		}
	}
}

// P12.2, P12.3: a long run, whose first and last positions lie far from one another.
func TestLong(t *testing.T) {
	w := compiled("fn main() { let i = 0; while i < 30000 { i = i + 1; } print(i); }", api.Limits{Steps: 1 << 32, Frames: 1, Out: 9})
	r := mustNew(t, w, 1000, 64)
	expect(t, "Last", r.Last(), 60003)
	expect(t, "Steps", r.Steps(), 60003)
	expect(t, "how many are kept", len(r.Kept()), 61)
	expect(t, "Seek", r.Seek(60003), 60003)
	expect(t, "Look's output", r.Look().Out, "30000\n")
	expect(t, "Seek", r.Seek(45678), 45678)
	expect(t, "Look's variable", r.Look().Frames[0].Vars[0].Value.N, 22838)
	expect(t, "Steps", r.Steps(), 2*60003+678)
}

// Each call of no run, and of one that New did not make.
func TestNoRun(t *testing.T) {
	var none *Run
	for _, r := range []*Run{none, {}, new(Run)} {
		for range 2 {
			for _, pos := range []int{math.MinInt, -1, 0, 1, 7, math.MaxInt} {
				expect(t, fmt.Sprintf("Seek(%d)", pos), r.Seek(pos), 0)
				expect(t, "At", r.At(), 0)
				expect(t, "Last", r.Last(), 0)
				expect(t, "Look", shown(r.Look()), shown(api.Look{}))
				expect(t, "State", shown(r.State()), shown(api.State{}))
				expect(t, "is there a heap?", r.Heap() != nil, false)
				expect(t, "how many are kept", len(r.Kept()), 0)
				expect(t, "Steps", r.Steps(), 0)
			}
		}
	}
}
