package code

import (
	"fmt"
	"math"
	"slices"
	"strings"
	"testing"

	"hindcast/api"
)

// expectHeights holds a code's main unit, with a stack of four, against the heights that it has.
func expectHeights(t *testing.T, main string, want ...int) {
	t.Helper()
	c := some(main)
	expectRight(t, main, c)
	if got, err := Heights(c, 0); err != api.OK || !slices.Equal(got, want) {
		t.Errorf("%s: %v, %d, not %v", main, got, err, want)
	}
}

func expectNoHeights(t *testing.T, main string) {
	t.Helper()
	expectWrong(t, main, some(main))
}

// P7.2: instructions behind one another.
func TestHeightsOfRows(t *testing.T) {
	expectHeights(t, "return", 0)
	expectHeights(t, "mark; mark; return", 0, 0, 0)
	expectHeights(t, "int 1; int 2; add; store 0; return", 0, 1, 2, 1, 0)
	expectHeights(t, "int 1; bool 1; str 0; load 0; setindex; pop; return", 0, 1, 2, 3, 4, 1, 0)
	expectHeights(t, "input; show; len; neg; not; field 1; store 2; return", 0, 1, 1, 1, 1, 1, 1, 0)
	expectHeights(t, "int 1; int 2; new 1; int 3; setfield 0; return", 0, 1, 2, 1, 2, 0)
	expectHeights(t, "int 1; int 2; int 3; array 3; int 0; index; pop; return", 0, 1, 2, 3, 1, 2, 1, 0)
	expectHeights(t, "int 1; int 2; fill; print 1; mark 3; int 4; int 5; print 2; return", 0, 1, 2, 1, 0, 0, 1, 2, 0)
}

// P7.1, P7.2: jumps to themselves, back, forth, to the end.
func TestHeightsOfJumps(t *testing.T) {
	expectHeights(t, "jump 0", 0)
	expectHeights(t, "int 1; jump 1", 0, 1)
	expectHeights(t, "jump 1; jump 0", 0, 0)
	expectHeights(t, "mark; jump 0", 0, 0)
	expectHeights(t, "jump 2; return; jump 1", 0, 0, 0)
	expectHeights(t, "jump 3; mark; return; jump 1", 0, 0, 0, 0)
	expectHeights(t, "int 1; jump 3; jump 4; jump 2; pop; return", 0, 1, 1, 1, 1, 0)
	expectHeights(t, "jump 1; return", 0, 0)
	expectHeights(t, "jump 2; mark; return", 0, -1, 0)
	expectNoHeights(t, "jump 1")
	expectNoHeights(t, "jump 2; return")
	expectNoHeights(t, "jump -1; return")
	expectNoHeights(t, "int 1; jump 0")
	expectNoHeights(t, "mark; int 1; jump 0")
	expectHeights(t, "int 1; int 2; pop; jump 1", 0, 1, 2, 1)
	expectNoHeights(t, "int 1; int 2; pop; jump 2")
	expectNoHeights(t, "jump 2; int 1; mark; jump 1")
}

// P7.1, P7.2: an unless, both of whose ways meet at one height, and at two.
func TestHeightsOfUnless(t *testing.T) {
	expectHeights(t, "bool 1; unless 2; return", 0, 1, 0)
	expectHeights(t, "bool 1; unless 3; mark; return", 0, 1, 0, 0)
	expectHeights(t, "bool 1; unless 3; return; return", 0, 1, 0, 0)
	expectHeights(t, "bool 1; unless 4; int 1; jump 5; int 2; pop; return", 0, 1, 0, 1, 0, 1, 0)
	expectHeights(t, "bool 1; unless 0; return", 0, 1, 0)
	expectHeights(t, "int 1; bool 1; unless 1; pop; return", 0, 1, 2, 1, 0)
	expectHeights(t, "mark; bool 1; unless 5; mark; jump 0; return", 0, 0, 1, 0, 0, 0)
	expectHeights(t, "bool 1; jump 3; return; unless 2; jump 2", 0, 1, 0, 1, 0)
	expectNoHeights(t, "bool 1; unless 3; int 1; return")
	expectNoHeights(t, "bool 1; unless 3; int 1; pop; return")
	expectNoHeights(t, "bool 1; unless 4; int 1; jump 4; pop; return")
	expectNoHeights(t, "int 1; bool 1; unless 4; pop; return")
	expectNoHeights(t, "int 1; bool 1; unless 0; pop; return")
	expectNoHeights(t, "bool 1; unless 1; return")
	expectHeights(t, "bool 1; bool 1; unless 1; pop; return", 0, 1, 2, 1, 0)
	expectNoHeights(t, "bool 1; bool 1; unless 2; pop; return")
	expectNoHeights(t, "bool 1; unless 2; pop; return")
	expectNoHeights(t, "bool 1; unless 0")
	expectNoHeights(t, "unless 1; return")
	// The way that is wrong may be either, or both.
	expectNoHeights(t, "bool 1; unless 4; pop; return; return")
	expectNoHeights(t, "bool 1; unless 3; return; pop; return")
	expectNoHeights(t, "bool 1; unless 3; pop; pop; return")
}

// needs are instructions with how many values they take and put, in a code with two texts and so on.
var needs = []struct {
	ins         string
	takes, puts int
}{
	{"mark 5", 0, 0}, {"jump", 0, 0}, {"int -3", 0, 1}, {"bool 1", 0, 1}, {"str 1", 0, 1}, {"load 2", 0, 1}, {"input", 0, 1},
	{"store 2", 1, 0}, {"pop", 1, 0}, {"unless", 1, 0},
	{"add", 2, 1}, {"sub", 2, 1}, {"mul", 2, 1}, {"div", 2, 1}, {"rem", 2, 1}, {"eq", 2, 1}, {"ne", 2, 1}, {"lt", 2, 1}, {"le", 2, 1}, {"gt", 2, 1}, {"ge", 2, 1}, {"index", 2, 1}, {"fill", 2, 1},
	{"neg", 1, 1}, {"not", 1, 1}, {"field 1", 1, 1}, {"len", 1, 1}, {"show", 1, 1},
	{"call 0", 0, 0}, {"call 1", 2, 1}, {"call 2", 1, 0},
	{"print 1", 1, 0}, {"print 2", 2, 0}, {"print 256", 256, 0}, {"array 1", 1, 1}, {"array 5", 5, 1}, {"array 256", 256, 1},
	{"new 0", 1, 1}, {"new 1", 2, 1}, {"setindex", 3, 0}, {"setfield 0", 2, 0},
}

// around tells a code in which an instruction is reached at a height, and all that it leaves is taken away behind it.
func around(ins string, height, left, stack int) api.Code {
	behind := height + 1
	if ins == "jump" || ins == "unless" {
		ins = fmt.Sprintf("%s %d", ins, behind)
	}
	c := some(times(height, "int 1") + ins + ";" + times(left, "pop") + "return")
	c.Units[0].Stack = stack
	return c
}

// P7.1, P7.2: what each instruction takes and puts: with just that, with more, and with less.
func TestHeightsOfEach(t *testing.T) {
	seen := map[api.Op]bool{api.OpReturn: true}
	for _, n := range needs {
		seen[asm(n.ins)[0].Op] = true
		top := max(n.takes, n.puts)
		c := around(n.ins, n.takes, n.puts, top)
		expectRight(t, n.ins, c)
		h, _ := Heights(c, 0)
		if h[n.takes] != n.takes || h[n.takes+1] != n.puts {
			t.Errorf("%s: %v", n.ins, h)
		}
		if n.takes > 0 {
			expectWrong(t, n.ins+" with one too few", around(n.ins, n.takes-1, n.puts, 256))
			expectWrong(t, n.ins+" with none", around(n.ins, 0, n.puts, 256))
		}
		if n.puts > 0 {
			expectWrong(t, n.ins+" of which too much is taken away", around(n.ins, n.takes, n.puts+1, 256))
			expectWrong(t, n.ins+" of which too little is taken away", around(n.ins, n.takes, n.puts-1, 256))
		}
		if more := top + 3; more <= 256 && n.ins != "mark 5" {
			expectRight(t, n.ins+" with three more", around(n.ins, n.takes+3, n.puts+3, more))
			expectWrong(t, n.ins+" with three more, and too much taken away", around(n.ins, n.takes+3, n.puts+4, more))
		}
	}
	expect(t, "how many ops are tried", len(seen), len(opNames))
}

// P7.1: what is left is at most the unit's stack; what is taken does not count.
func TestHeightsAndStack(t *testing.T) {
	for stack := range 256 {
		main := times(stack, "int 1") + times(stack, "pop") + "return"
		c := changed(some(main), func(c *api.Code) { c.Units[0].Stack = stack })
		expect(t, fmt.Sprintf("just the stack of %d", stack), Check(c), api.OK)
		if stack > 0 {
			c.Units[0].Stack = stack - 1
			expect(t, fmt.Sprintf("one more than the stack of %d", stack-1), Check(c), api.ErrArg)
		}
	}
	for _, n := range needs {
		top := max(n.takes, n.puts)
		if top == 0 {
			continue
		}
		expectRight(t, n.ins+" with just the stack", around(n.ins, n.takes, n.puts, top))
		expectWrong(t, n.ins+" with a stack too small", around(n.ins, n.takes, n.puts, top-1))
	}
	whole := changed(some(times(256, "load")+"array 256; pop; return"), func(c *api.Code) { c.Units[0].Stack = 256 })
	expectRight(t, "the greatest stack", whole)
	more := changed(some(times(257, "load")+"pop; array 256; pop; return"), func(c *api.Code) { c.Units[0].Stack = 256 })
	expectWrong(t, "more than the greatest stack", more)
	// The stack is each unit's own.
	other := changed(some("int 1; int 2; call 1; pop; return"), func(c *api.Code) { c.Units[1].Stack = 1 })
	expectRight(t, "a called unit with just its stack", other)
	other.Units[1].Stack = 0
	expectWrong(t, "a called unit with a stack too small", other)
	deep := changed(some("int 1; int 2; call 1; pop; return"), func(c *api.Code) { c.Units[0].Stack, c.Units[1].Ins = 2, asm("load; load; pop; return 1") })
	expectRight(t, "a called unit with as much as its caller", deep)
}

// P7.1: marks and returns.
func TestHeightsOfMarksAndReturns(t *testing.T) {
	expectNoHeights(t, "int 1; mark; pop; return")
	expectNoHeights(t, "int 1; int 2; mark; pop; pop; return")
	expectNoHeights(t, "int 1; return")
	expectNoHeights(t, "int 1; int 2; return")
	expectNoHeights(t, "int 1; jump 2; return")
	expectHeights(t, "int 1; pop; mark; return", 0, 1, 0, 0)
	for s, right := range map[string]bool{
		"return 1": false, "load; return 1": true, "load; load; return 1": false, "load; load; add; return 1": true, "load; pop; return 1": false,
		"load; jump 2; return 1": true, "load; unless 3; load; return 1": false, "load; unless 4; load; return 1; jump 2": true, "mark; load; return 1": true, "load; mark; return 1": false,
	} {
		c := changed(some("return"), func(c *api.Code) { c.Units[1].Ins = asm(s) })
		if right {
			expectRight(t, s, c)
		} else {
			expectWrong(t, s, c)
		}
	}
}

// P7.1: behind a reached instruction there is one, unless it is a return.
func TestHeightsOfTheLast(t *testing.T) {
	for _, n := range needs {
		if n.takes > 4 || n.ins == "jump" {
			continue
		}
		expectNoHeights(t, times(n.takes, "int 1")+n.ins)
		expectHeights(t, "return; "+n.ins, 0, -1)
	}
	expectNoHeights(t, "mark")
	expectNoHeights(t, "jump 2; return; mark")
	expectNoHeights(t, "bool 1; unless 3; return; mark")
	expectHeights(t, "jump 2; return; jump 1", 0, 0, 0)
}

// P7.1, P7.2: instructions that are not reached may have any heights, but what they name must be there.
func TestHeightsOfUnreached(t *testing.T) {
	expectHeights(t, "return; pop; add; mark; return", 0, -1, -1, -1, -1)
	expectHeights(t, "return; int 1; jump 0", 0, -1, -1)
	expectHeights(t, "return; int 1; int 1; unless 1; mark", 0, -1, -1, -1, -1)
	expectHeights(t, "jump 4; pop; pop; pop; return; int 1", 0, -1, -1, -1, 0, -1)
	expectHeights(t, "jump 2; mark; jump 4; mark; return", 0, -1, 0, -1, 0)
	expectHeights(t, "return; "+times(9, "int 1")+"return", append([]int{0}, slices.Repeat([]int{-1}, 10)...)...)
	expectNoHeights(t, "return; pop 1")
	expectNoHeights(t, "return; jump 2")
	expectNoHeights(t, "return; return 1")
	expectNoHeights(t, "return; str 2")
}

// P7.1, P7.2: calls of a unit with and without a result, of itself, of one that stands further ahead.
func TestHeightsOfCalls(t *testing.T) {
	expectHeights(t, "int 1; int 2; call 1; pop; return", 0, 1, 2, 1, 0)
	expectHeights(t, "int 1; call 2; return", 0, 1, 0)
	expectHeights(t, "call 0; return", 0, 0)
	expectHeights(t, "int 1; call 0; pop; return", 0, 1, 1, 0)
	expectHeights(t, "int 0; int 1; int 2; call 1; add; store 0; return", 0, 1, 2, 3, 2, 1, 0)
	expectNoHeights(t, "call 1; pop; return")
	expectNoHeights(t, "int 1; call 1; pop; return")
	expectNoHeights(t, "int 1; int 2; call 1; return")
	expectNoHeights(t, "int 1; int 2; int 3; call 1; pop; return")
	expectNoHeights(t, "call 2; return")
	expectNoHeights(t, "int 1; call 2; pop; return")
	expectNoHeights(t, "call 0; pop; return")
	c := changed(some("return"), func(c *api.Code) { c.Units[1].Ins = asm("load 1; load 0; call 1; return 1") })
	expectRight(t, "a call of itself", c)
	if h, err := Heights(c, 1); err != api.OK || !slices.Equal(h, []int{0, 1, 2, 1}) {
		t.Error(h, err)
	}
	expectWrong(t, "a call of itself with too little", changed(c, func(c *api.Code) { c.Units[1].Ins = asm("load 0; call 1; return 1") }))
	eight := changed(some(times(8, "int 1")+"call 1; return"), func(c *api.Code) {
		c.Units[0].Stack = 8
		c.Units[1] = api.Unit{Name: "f", Params: 8, Slots: 8, Ins: asm("return")}
	})
	expectRight(t, "a call of a unit with the most parameters", eight)
	eight.Units[1].Params = 7
	expectWrong(t, "a call of a unit with a parameter less", eight)
}

// P7.2: which unit.
func TestHeightsOfWhichUnit(t *testing.T) {
	c := changed(some("int 1; pop; return"), func(c *api.Code) { c.Units[2].Ins = asm("jump 2; pop; return") })
	for n, want := range [][]int{{0, 1, 0}, {0, 0, 1}, {0, -1, 0}} {
		if got, err := Heights(c, n); err != api.OK || !slices.Equal(got, want) {
			t.Errorf("the unit %d: %v, %d, not %v", n, got, err, want)
		}
	}
	for _, n := range []int{math.MinInt, -3, -1, 3, 4, 1 << 32, math.MaxInt} {
		if got, err := Heights(c, n); len(got) != 0 || err != api.ErrNone {
			t.Errorf("the unit %d: %v, %d", n, got, err)
		}
	}
	wrong := changed(c, func(c *api.Code) { c.Units[2].Ins[0].A = 3 })
	for _, n := range []int{math.MinInt, -1, 0, 1, 2, 3, math.MaxInt} {
		if got, err := Heights(wrong, n); len(got) != 0 || err != api.ErrArg {
			t.Errorf("the unit %d of a wrong code: %v, %d", n, got, err)
		}
	}
	if got, err := Heights(api.Code{}, 0); len(got) != 0 || err != api.ErrArg {
		t.Errorf("no code: %v, %d", got, err)
	}
}

// P7.2: the unit with the most instructions, whose jumps lead through all of them in another order.
func TestHeightsOfTheMost(t *testing.T) {
	var b strings.Builder
	for n := range 4095 {
		fmt.Fprintf(&b, "jump %d;", (n+2048)%4095)
	}
	c := some(b.String() + "return")
	h, err := Heights(c, 0)
	expect(t, "the error", err, api.OK)
	want, _ := heightsByWords(c, c.Units[0])
	if !slices.Equal(h, want) || len(h) != 4096 || h[4095] != -1 || h[4094] != 0 {
		t.Errorf("%.200v", h)
	}
	for n := range c.Units[0].Ins[:4095] {
		c.Units[0].Ins[n] = api.Ins{Op: api.OpBool}
		if n%2 == 1 {
			c.Units[0].Ins[n] = api.Ins{Op: api.OpUnless, A: (n*31 + 1) % 4096 &^ 1}
		}
	}
	c.Units[0].Ins[4094] = api.Ins{Op: api.OpMark}
	expectRight(t, "the most unlesses", c)
}
