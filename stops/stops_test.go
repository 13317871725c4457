package stops

import (
	"fmt"
	"math"
	"strconv"
	"strings"
	"testing"

	"hindcast/api"
	"hindcast/compile"
	"hindcast/heap"
	"hindcast/syntax"
	"hindcast/vm"
)

// The chapter's example.
func TestExample(t *testing.T) {
	x := New()
	mustBreak(t, x, 3, "", 1)
	mustBreak(t, x, 3, "a > 1", 2)
	mustWatch(t, x, "a", 3)
	expectList(t, "Hits with 1", with(1).hits(x, 3), 1)
	expectList(t, "Hits with 2", with(2).hits(x, 3), 1, 2)
	expectList(t, "Watched with 2", with(2).watched(x), "2")
	expect(t, "Turn", x.Turn(1, false), api.OK)
	expectList(t, "Hits with 2, 1 being off", with(2).hits(x, 3), 2)
	refuseBreak(t, x, 0, "", api.ErrArg)
	refuseWatch(t, x, "1+", api.ErrSyntax)
}

// Each call of no table, and of one that nothing made, answers ErrNil and zero values, ahead of all else that is wrong, and does nothing.
func TestNoTable(t *testing.T) {
	var no *Table
	for _, x := range []*Table{no, {}, new(Table)} {
		for range 2 {
			for _, line := range []int{1, 0, -1} {
				for _, cond := range []string{"", "a > 1", "1 +"} {
					id, err := x.Break(line, cond)
					expect(t, "Break", id, 0)
					expect(t, "Break", err, api.ErrNil)
				}
			}
			for _, s := range []string{"a", "", "1 +"} {
				id, err := x.Watch(s)
				expect(t, "Watch", id, 0)
				expect(t, "Watch", err, api.ErrNil)
			}
			for _, id := range []int{0, 1, -1, api.MaxId} {
				expect(t, "Delete", x.Delete(id), api.ErrNil)
				expect(t, "Turn on", x.Turn(id, true), api.ErrNil)
				expect(t, "Turn off", x.Turn(id, false), api.ErrNil)
			}
			expect(t, "Next", x.Next(), 0)
			expect(t, "All", len(x.All()), 0)
			for _, p := range spots() {
				for line := range 3 {
					expect(t, "Hits", len(p.hits(x, line)), 0)
				}
				expect(t, "Watched", len(p.watched(x)), 0)
			}
		}
	}
}

// P14.3: a new table has no stops, and gives the Id 1 first.
func TestNew(t *testing.T) {
	x := New()
	if x == nil {
		t.Fatal("none")
	}
	expectSame(t, "New", x, newModel(1), spots()...)
	expect(t, "Delete", x.Delete(1), api.ErrNone)
	expect(t, "Turn", x.Turn(1, true), api.ErrNone)
	mustWatch(t, x, "a", 1)
	y := New()
	expectSame(t, "another one", y, newModel(1), here())
	mustBreak(t, y, 1, "", 1)
}

// P14.1: what is made is on, has the next Id, and just what it was given.
func TestMade(t *testing.T) {
	x := New()
	mustBreak(t, x, 1, "", 1)
	mustWatch(t, x, "a", 2)
	mustBreak(t, x, math.MaxInt, " a>1 // so", 3)
	mustWatch(t, x, "(zz)", 4)
	mustBreak(t, x, 1, "", 5)
	mustBreak(t, x, 1, "[f(1)]", 6)
	expectList(t, "All", x.All(), api.Stop{Id: 1, Line: 1}, api.Stop{Id: 2, Watch: "a"}, api.Stop{Id: 3, Line: math.MaxInt, Cond: " a>1 // so"}, api.Stop{Id: 4, Watch: "(zz)"}, api.Stop{Id: 5, Line: 1}, api.Stop{Id: 6, Line: 1, Cond: "[f(1)]"})
	expect(t, "Next", x.Next(), 7)
}

// P14.1: lines from 1 on; ErrArg is ahead of what is wrong with the condition, and of a table that is full.
func TestLines(t *testing.T) {
	for _, x := range []*Table{New(), mustLoad(t, row(16, 1), 17), mustLoad(t, nil, api.MaxId)} {
		for _, line := range []int{0, -1, math.MinInt} {
			for _, cond := range []string{"", "a", "1 +", strings.Repeat(" ", 5000)} {
				refuseBreak(t, x, line, cond, api.ErrArg)
			}
		}
	}
	x := New()
	mustBreak(t, x, 1, "", 1)
	mustBreak(t, x, math.MaxInt, "", 2)
	expectList(t, "Hits of the last line", here().hits(x, math.MaxInt), 2)
}

// P14.1: what syntax.Expr tells of a text that is none, ahead of a table that is full; an empty condition is fine, an empty watch is not.
func TestTexts(t *testing.T) {
	for _, x := range []*Table{New(), mustLoad(t, row(16, 1), 17), mustLoad(t, row(2, api.MaxId-2), api.MaxId)} {
		for s, want := range texts {
			_, _, err := syntax.Expr(s)
			expect(t, "syntax.Expr", err, want)
			refuseBreak(t, x, 1, s, want)
			refuseWatch(t, x, s, want)
		}
		refuseWatch(t, x, "", api.ErrSyntax)
	}
	x := New()
	mustBreak(t, x, 1, "", 1)
	for n, s := range []string{"a", "1", "zz", "f(1, 2)", "new P()", "[1]", "1 / 0", `"true"`, strings.Repeat(" ", 4095) + "1", strings.Repeat("-", 23) + "1", "a // b"} {
		mustBreak(t, x, 1, s, 2+2*n)
		mustWatch(t, x, s, 3+2*n)
		x.Delete(2 + 2*n)
		x.Delete(3 + 2*n)
	}
}

// P14.1: MaxStops stops, and one more.
func TestFull(t *testing.T) {
	for off := range 2 {
		x := New()
		for i := range 16 {
			if i%2 == 0 {
				mustBreak(t, x, 1+i, "", 1+i)
			} else {
				mustWatch(t, x, "a", 1+i)
			}
		}
		x.Turn(3, off == 0) // one that is off has its room, too
		refuseBreak(t, x, 1, "", api.ErrFull)
		refuseBreak(t, x, 1, "a", api.ErrFull)
		refuseWatch(t, x, "a", api.ErrFull)
		expect(t, "Delete", x.Delete(7), api.OK)
		mustWatch(t, x, "b", 17)
		refuseBreak(t, x, 1, "", api.ErrFull)
		expect(t, "how many there are", len(x.All()), 16)
		expect(t, "Next", x.Next(), 18)
	}
}

// P14.1: the next Id is at most MaxId, which is not given.
func TestLastId(t *testing.T) {
	x := mustLoad(t, nil, api.MaxId-2)
	mustBreak(t, x, 1, "", api.MaxId-2)
	mustWatch(t, x, "a", api.MaxId-1)
	expect(t, "Next", x.Next(), api.MaxId)
	for range 2 {
		refuseBreak(t, x, 1, "", api.ErrFull)
		refuseBreak(t, x, 1, "a", api.ErrFull)
		refuseWatch(t, x, "a", api.ErrFull)
		x.Delete(api.MaxId - 2)
	}
	expect(t, "Turn", x.Turn(api.MaxId-1, false), api.OK)
	expect(t, "Delete", x.Delete(api.MaxId-1), api.OK)
	refuseBreak(t, x, 1, "", api.ErrFull)
	expectSame(t, "with no Id left", x, newModel(api.MaxId), here())
	expectSame(t, "the same, loaded", mustLoad(t, x.All(), x.Next()), newModel(api.MaxId), here())
}

// P14.2: an Id that is not there, and one that is.
func TestDeleteAndTurn(t *testing.T) {
	x := mustLoad(t, []api.Stop{{Id: 2, Line: 1}, {Id: 5, Watch: "a"}, {Id: 6, Line: 1, Off: true}}, 9)
	m := newModel(9)
	m.at = map[int]api.Stop{2: {Id: 2, Line: 1}, 5: {Id: 5, Watch: "a"}, 6: {Id: 6, Line: 1, Off: true}}
	for _, id := range []int{0, -1, 1, 3, 4, 7, 8, 9, 10, -2, -5, api.MaxId, math.MaxInt, math.MinInt} {
		expect(t, "Delete", x.Delete(id), api.ErrNone)
		expect(t, "Turn on", x.Turn(id, true), api.ErrNone)
		expect(t, "Turn off", x.Turn(id, false), api.ErrNone)
	}
	expectSame(t, "behind what was refused", x, m, here())
	for _, on := range []bool{true, true, false, false, true, false} {
		for _, id := range []int{2, 5, 6} {
			expect(t, "Turn", x.Turn(id, on), m.turn(id, on))
			expectSame(t, "Turn", x, m, here())
		}
	}
	for _, id := range []int{5, 6, 2} {
		expect(t, "Delete", x.Delete(id), m.delete(id))
		expectSame(t, "Delete", x, m, here())
		expect(t, "Delete again", x.Delete(id), api.ErrNone)
		expect(t, "Turn of what is gone", x.Turn(id, true), api.ErrNone)
	}
	mustWatch(t, x, "a", 9)
}

// P14.6: an Id is not given again, be its stop the last one, the only one, or one in between.
func TestIds(t *testing.T) {
	x := New()
	for id := 1; id < 100; id++ {
		mustBreak(t, x, 1, "", id)
		if id%5 != 0 {
			x.Delete(id)
		}
		if len(x.All()) == 12 {
			x.Delete(5)
			x.Delete(id - 1)
			x = mustLoad(t, x.All(), x.Next())
		}
	}
	for _, s := range x.All() {
		x.Delete(s.Id)
	}
	expect(t, "Next of an empty table", x.Next(), 100)
	x = mustLoad(t, x.All(), x.Next())
	refuseWatch(t, x, "1 +", api.ErrSyntax)
	mustWatch(t, x, "a", 100)
}

// P14.3: which stops Load takes.
func TestLoadRight(t *testing.T) {
	for _, s := range []api.Stop{
		{Line: 1}, {Line: math.MaxInt}, {Line: 3, Off: true}, {Line: 3, Cond: "a > 1"}, {Line: 3, Cond: "zz", Off: true}, {Line: 3, Cond: "1 / 0"},
		{Watch: "a"}, {Watch: "a", Off: true}, {Watch: "[f()]"}, {Watch: " a // b"}, {Watch: strings.Repeat(" ", 4095) + "1"},
	} {
		s.Id = 1
		expectList(t, "All", mustLoad(t, []api.Stop{s}, 2).All(), s)
		s.Id = api.MaxId - 1
		expectList(t, "All", mustLoad(t, []api.Stop{s}, api.MaxId).All(), s)
		s.Id = 4
		l := []api.Stop{{Id: 1, Line: 7}, s, {Id: 9, Watch: "b"}}
		expectList(t, "All", mustLoad(t, l, 10).All(), l...)
	}
}

// P14.3: which stops Load refuses, wherever they stand.
func TestLoadNotRight(t *testing.T) {
	bad := []api.Stop{
		{Id: 4}, {Id: 4, Line: 0, Off: true}, {Id: 4, Line: -1}, {Id: 4, Line: math.MinInt}, {Id: 4, Cond: "a"}, {Id: 4, Line: -1, Cond: "a"},
		{Id: 4, Line: 1, Watch: "a"}, {Id: 4, Line: -1, Watch: "a"}, {Id: 4, Cond: "a", Watch: "a"}, {Id: 4, Line: 1, Cond: "a", Watch: "a"}, {Id: 4, Line: 1, Cond: "a", Watch: "1 +"}, {Id: 4, Cond: " ", Watch: "a"},
		{Line: 1}, {Id: -1, Line: 1}, {Watch: "a"}, {Id: -4, Watch: "a"}, {Id: math.MinInt, Line: 1},
	}
	for s := range texts {
		bad = append(bad, api.Stop{Id: 4, Line: 1, Cond: s}, api.Stop{Id: 4, Watch: s}, api.Stop{Id: 4, Watch: s, Off: true})
	}
	ahead, behind := api.Stop{Id: 3, Line: 1}, api.Stop{Id: 5, Watch: "a"}
	for _, s := range bad {
		for _, l := range [][]api.Stop{{s}, {ahead, s}, {s, behind}, {ahead, s, behind}} {
			refuseLoad(t, l, 10, api.ErrFormat)
		}
		refuseLoad(t, append([]api.Stop{s}, row(30, 5)...), 90, api.ErrFormat)
		refuseLoad(t, append([]api.Stop{s}, row(20, 5)...), 0, api.ErrFormat)
	}
}

// P14.3: Ids rise, and the next one is above them all, from 1 to MaxId.
func TestLoadIds(t *testing.T) {
	for _, ids := range [][]int{{1, 1}, {2, 1}, {1, 3, 2}, {1, 3, 3}, {3, 1, 2}, {5, 5, 5}, {1, 2, 1}} {
		var l []api.Stop
		for _, id := range ids {
			l = append(l, api.Stop{Id: id, Watch: "a"})
		}
		refuseLoad(t, l, 9, api.ErrFormat)
		refuseLoad(t, append(l, row(16, 10)...), 90, api.ErrFormat)
	}
	for _, next := range []int{0, -1, math.MinInt, api.MaxId + 1, math.MaxInt} {
		refuseLoad(t, nil, next, api.ErrFormat)
		refuseLoad(t, []api.Stop{}, next, api.ErrFormat)
		refuseLoad(t, row(3, 1), next, api.ErrFormat)
		refuseLoad(t, row(17, 1), next, api.ErrFormat)
	}
	for _, next := range []int{1, 2, 3, 4} {
		refuseLoad(t, row(3, 2), next, api.ErrFormat)
		refuseLoad(t, row(17, 2), next, api.ErrFormat)
	}
	refuseLoad(t, row(3, api.MaxId-2), api.MaxId, api.ErrFormat)
	refuseLoad(t, row(3, api.MaxId-2), api.MaxId+1, api.ErrFormat)
	refuseLoad(t, row(1, math.MaxInt), math.MinInt, api.ErrFormat)
	for _, next := range []int{5, 6, 1000, api.MaxId - 1, api.MaxId} {
		expect(t, "Next", mustLoad(t, row(3, 2), next).Next(), next)
	}
	for _, next := range []int{1, 2, api.MaxId - 1, api.MaxId} {
		expectSame(t, "no stops", mustLoad(t, nil, next), newModel(next), here())
	}
	mustLoad(t, row(3, api.MaxId-3), api.MaxId)
}

// P14.3: MaxStops stops, and one more.
func TestLoadFull(t *testing.T) {
	expect(t, "how many there are", len(mustLoad(t, row(16, 1), 17).All()), 16)
	for _, n := range []int{17, 18, 300} {
		refuseLoad(t, row(n, 1), n+1, api.ErrFull)
		refuseLoad(t, row(n, 1), api.MaxId, api.ErrFull)
		refuseLoad(t, row(n, 1), n, api.ErrFormat)
		l := row(n, 1)
		l[n-1].Line = 0
		refuseLoad(t, l, n+1, api.ErrFormat)
		l = row(n, 1)
		l[n-1].Id = n - 1
		refuseLoad(t, l, n+1, api.ErrFormat)
	}
}

// comings are texts, and what each is shown as at each of the spots.
var comings = []struct {
	text string
	at   [7]string
}{
	{"a", [7]string{"2", "1", "2", "?", "?", "?", "?"}},
	{"a > 1", [7]string{"true", "false", "true", "?", "?", "?", "?"}},
	{"a == 1 || zz", [7]string{"?", "true", "?", "?", "?", "?", "?"}},
	{"true", [7]string{"true", "true", "true", "true", "?", "?", "?"}},
	{" ( true ) // so", [7]string{"true", "true", "true", "true", "?", "?", "?"}},
	{"false", [7]string{"false", "false", "false", "false", "?", "?", "?"}},
	{"!false && true", [7]string{"true", "true", "true", "true", "?", "?", "?"}},
	{"1", [7]string{"1", "1", "1", "1", "?", "?", "?"}},
	{"t", [7]string{"true", "true", "true", "?", "?", "?", "?"}},
	{"f", [7]string{"false", "true", "false", "?", "?", "?", "?"}},
	{"s", [7]string{`"true"`, `"true"`, `"true"`, "?", "?", "?", "?"}},
	{`"true"`, [7]string{`"true"`, `"true"`, `"true"`, `"true"`, "?", "?", "?"}},
	{"str(t)", [7]string{`"true"`, `"true"`, `"true"`, "?", "?", "?", "?"}},
	{`s == "true"`, [7]string{"true", "true", "true", "?", "?", "?", "?"}},
	{"n", [7]string{"none", "none", "none", "?", "?", "?", "?"}},
	{"l", [7]string{"[5, 6]", "[5, 6]", "[3]", "?", "?", "?", "?"}},
	{"p", [7]string{`P(3, "q")`, `P(3, "q")`, `P("z")`, "?", "?", "?", "?"}},
	{"p.x", [7]string{"3", "?", "?", "?", "?", "?", "?"}},
	{"p.s", [7]string{`"q"`, "?", `"z"`, "?", "?", "?", "?"}},
	{"p.x == 3", [7]string{"true", "?", "?", "?", "?", "?", "?"}},
	{`p.s == "z"`, [7]string{"false", "?", "true", "?", "?", "?", "?"}},
	{"l[0] + len(l)", [7]string{"7", "7", "4", "?", "?", "?", "?"}},
	{"l[1] == 6", [7]string{"true", "true", "?", "?", "?", "?", "?"}},
	{"1 / 0", [7]string{"?", "?", "?", "?", "?", "?", "?"}},
	{"zz", [7]string{"?", "?", "?", "?", "?", "?", "?"}},
	{"a && true", [7]string{"?", "?", "?", "?", "?", "?", "?"}},
	{"[true]", [7]string{"?", "?", "?", "?", "?", "?", "?"}},
	{"main()", [7]string{"?", "?", "?", "?", "?", "?", "?"}},
	{"b * 2 < a", [7]string{"true", "true", "true", "?", "?", "?", "?"}},
}

// P14.4, P14.5: at each spot a breakpoint is met just where its condition comes to true, in its line alone; a watch comes to what is shown, in any line; neither is asked when it is off.
func TestComings(t *testing.T) {
	for _, c := range comings {
		x := New()
		mustBreak(t, x, 7, c.text, 1)
		mustWatch(t, x, c.text, 2)
		mustBreak(t, x, 7, "", 3)
		mustBreak(t, x, 8, c.text, 4)
		for n, p := range spots() {
			in7, in8 := []int{3}, []int{}
			if c.at[n] == "true" {
				in7, in8 = []int{1, 3}, []int{4}
			}
			expectList(t, "Hits of "+c.text, p.hits(x, 7), in7...)
			expectList(t, "Hits of "+c.text+" in the line below", p.hits(x, 8), in8...)
			for _, line := range []int{6, 9, 0, 1, -7, math.MaxInt, math.MinInt} {
				expectList(t, "Hits in another line", p.hits(x, line))
				expectList(t, "Watched of "+c.text, x.Watched(p.frame(line), p.heap, p.shapes), c.at[n])
			}
			x.Turn(1, false)
			x.Turn(2, false)
			expectList(t, "Hits of "+c.text+", which is off", p.hits(x, 7), 3)
			expectList(t, "Hits of "+c.text+", another of which is off", p.hits(x, 8), in8...)
			expectList(t, "Watched of "+c.text+", which is off", p.watched(x))
			x.Turn(1, true)
			x.Turn(2, true)
		}
	}
}

// P14.4: a watch has no line, so that a frame whose line is 0, which no run has, does not meet it.
func TestNoLine(t *testing.T) {
	x := New()
	mustWatch(t, x, "true", 1)
	mustBreak(t, x, 1, "", 2)
	for _, line := range []int{0, -1, 2} {
		for _, p := range spots() {
			expectList(t, "Hits", p.hits(x, line))
		}
	}
}

// P14.4: in which function a frame is does not matter.
func TestAnyFunction(t *testing.T) {
	x := New()
	mustBreak(t, x, 1, "a > 1", 1)
	mustWatch(t, x, "a", 2)
	for _, name := range []string{"", "main", "f", "a", "no name"} {
		f := with(2).frame(1)
		f.Func = name
		expectList(t, "Hits in "+name, x.Hits(f, heap.New(0), nil), 1)
		expectList(t, "Watched in "+name, x.Watched(f, heap.New(0), nil), "2")
	}
}

// P14.4, P14.5: by Ids, however many there are, and in whatever order they were turned on.
func TestInOrder(t *testing.T) {
	x := New()
	for n := range 8 {
		mustBreak(t, x, 3, "a != "+strconv.Itoa(n), 1+2*n)
		mustWatch(t, x, "a + "+strconv.Itoa(n), 2+2*n)
	}
	for id := 16; id > 0; id-- {
		x.Turn(id, false)
	}
	expectList(t, "Hits of what is off", with(4).hits(x, 3))
	expectList(t, "Watched of what is off", with(4).watched(x))
	for id := 16; id > 0; id-- {
		x.Turn(id, true)
	}
	expectList(t, "Hits", with(4).hits(x, 3), 1, 3, 5, 7, 11, 13, 15)
	expectList(t, "Watched", with(4).watched(x), "4", "5", "6", "7", "8", "9", "10", "11")
	for _, id := range []int{3, 4, 15, 16} {
		x.Delete(id)
	}
	expectList(t, "Hits behind Delete", with(4).hits(x, 3), 1, 5, 7, 11, 13)
	expectList(t, "Watched behind Delete", with(4).watched(x), "4", "6", "7", "8", "9", "10")
}

// P14.5: what would be shown with more than MaxShow bytes is cut, as the heap has it, and what reads ? stands within quotes.
func TestLongWatch(t *testing.T) {
	x := New()
	mustWatch(t, x, "s", 1)
	mustWatch(t, x, "q", 2)
	p := spot{vars: []api.Bind{named("s", txt(strings.Repeat("y", 255))), named("q", txt("?"))}, heap: heap.New(0)}
	expectList(t, "Watched", p.watched(x), `"`+strings.Repeat("y", 196)+"...", `"?"`)
}

// P14.7: a table, and what is loaded of it, are alike, and stay so whatever is done to both.
func TestThereAndBack(t *testing.T) {
	x := New()
	mustBreak(t, x, 3, "", 1)
	mustWatch(t, x, "a", 2)
	mustBreak(t, x, 3, " a>1 // so", 3)
	mustWatch(t, x, "p . x", 4)
	x.Turn(2, false)
	x.Turn(3, false)
	x.Delete(4)
	y := mustLoad(t, x.All(), x.Next())
	z := mustLoad(t, y.All(), y.Next())
	for _, o := range []*Table{x, y, z} {
		expectList(t, "All", o.All(), api.Stop{Id: 1, Line: 3}, api.Stop{Id: 2, Watch: "a", Off: true}, api.Stop{Id: 3, Line: 3, Cond: " a>1 // so", Off: true})
		expect(t, "Next", o.Next(), 5)
		expect(t, "Turn", o.Turn(3, true), api.OK)
		expectList(t, "Hits", here().hits(o, 3), 1, 3)
		mustWatch(t, o, "b", 5)
		expectList(t, "Watched", here().watched(o), "-3")
	}
	y.Delete(1)
	expect(t, "what is done to one is not done to the other", len(x.All())+len(z.All()), 8)
}

const source = `record P { x: int, s: str }
fn sum(n: int): int {
let t = 0;
while n > 0 {
t = t + n;
n = n - 1;
}
return t;
}
fn main() {
let l = [1, 2];
let p = new P(3, "a");
l[0] = sum(2);
p.x = l[0] + p.x;
print(l[0]);
}
`

// P14.4, P14.5: the stops that the positions of a run meet in the innermost frame.
func TestOfARun(t *testing.T) {
	c, _, err := compile.Source(source)
	expect(t, "Source", err, api.OK)
	m, err := vm.New(c, nil, api.Limits{Steps: 100, Heap: 100, Frames: 4, Out: 100})
	expect(t, "New", err, api.OK)
	x := New()
	mustBreak(t, x, 5, "", 1)
	mustBreak(t, x, 5, "t > 0", 2)
	mustBreak(t, x, 15, "p.x == 6 && l[0] == 3", 3)
	mustBreak(t, x, 14, "p.x == 6", 4)
	mustBreak(t, x, 4, "n == 0", 5)
	mustWatch(t, x, "t", 6)
	mustWatch(t, x, "len(l) * l[0]", 7)
	mustWatch(t, x, "p", 8)
	var got []string
	for more := true; more; more = m.Step() {
		frames := m.Look().Frames
		if len(frames) == 0 {
			break
		}
		f := frames[len(frames)-1]
		got = append(got, fmt.Sprintf("%d %v %s", f.Line, x.Hits(f, m.Heap(), c.Shapes), strings.Join(x.Watched(f, m.Heap(), c.Shapes), " ")))
	}
	expectList(t, "what is met", got,
		"11 [] ? ? ?", "12 [] ? 2 ?", `13 [] ? 2 P(3, "a")`,
		"3 [] ? ? ?", "4 [] 0 ? ?", "5 [1] 0 ? ?", "6 [] 2 ? ?", "4 [] 2 ? ?", "5 [1 2] 2 ? ?", "6 [] 3 ? ?", "4 [5] 3 ? ?", "8 [] 3 ? ?",
		`14 [] ? 6 P(3, "a")`, `15 [3] ? 6 P(6, "a")`)
}
