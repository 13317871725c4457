package code

import (
	"fmt"
	"math"
	"slices"
	"strings"
	"testing"

	"hindcast/api"
)

// notNames are such as nothing may be named.
func notNames() []string {
	l := strings.Fields("fn record let if else while return new true false ( ) = == + 1 1a a-b a.b \"a\" // é aé -a")
	return append(l, "", " ", "a ", " a", "a b", "\n", "a\n", "a\x00", "\x80", "a//", strings.Repeat("a", 21), strings.Repeat("a", 1<<16))
}

// someNames are such as a thing may be named, and so many.
func someNames(n int) []string {
	l := []string{"a", "_", "_1", "int", "len", "Fn", "fn1", "main2", "aZ09_", strings.Repeat("w", 20)}
	for len(l) < n {
		l = append(l, fmt.Sprintf("n%d", len(l)))
	}
	return l[:n]
}

// P7.1: the chapter's example.
func TestExample(t *testing.T) {
	c := api.Code{Units: []api.Unit{{Name: "main", Stack: 1, Ins: asm("mark 1; int 2; print 1; return 0")}}}
	expectRight(t, "the example", c)
	h, err := Heights(c, 0)
	if !slices.Equal(h, []int{0, 0, 1, 0}) || err != api.OK {
		t.Error(h, err)
	}
	l, err := List(c)
	if !slices.Equal(l, []string{"fn main", "0 mark 1", "1 int 2", "2 print 1", "3 return 0"}) || err != api.OK {
		t.Error(l, err)
	}
	c.Units[0].Ins = asm("mark 1; int 2; print 1; pop; return 0")
	expectWrong(t, "the example with a pop", c)
}

// P7.1: a code that is zero, and the least one that is right.
func TestCheckLeast(t *testing.T) {
	expectWrong(t, "zero", api.Code{})
	least := api.Code{Units: []api.Unit{{Name: "a", Ins: asm("return")}}}
	expectRight(t, "the least", least)
	expectRight(t, "empty lists", api.Code{Strs: []string{}, Shapes: []api.Shape{}, Units: []api.Unit{{Name: "a", Ins: asm("return"), Vars: []api.Var{}}}})
	expectWrong(t, "empty units", api.Code{Units: []api.Unit{}})
	expectWrong(t, "empty instructions", api.Code{Units: []api.Unit{{Name: "a", Ins: []api.Ins{}}}})
}

// P7.1: texts.
func TestCheckTexts(t *testing.T) {
	with := func(l []string) api.Code {
		return changed(some("return"), func(c *api.Code) { c.Strs = l })
	}
	expectRight(t, "no text", with(nil))
	expectRight(t, "the most texts", with(slices.Repeat([]string{"same"}, 1024)))
	expectWrong(t, "one text more", with(slices.Repeat([]string{"same"}, 1025)))
	expectWrong(t, "many texts", with(make([]string, 1<<16)))
	for _, s := range []string{"", " ", "~", "\n", "\"", "\\", "let", "a b", "1", strings.Repeat("a", 255), strings.Repeat("\n", 255), strings.Repeat("\"", 255)} {
		expectRight(t, fmt.Sprintf("the text %.20q", s), with([]string{s}))
	}
	for _, s := range []string{"\x00", "\t", "\r", "\x1f", "\x7f", "\x80", "é", "a\x00", strings.Repeat("a", 256), strings.Repeat("a", 1<<16), strings.Repeat("a", 255) + "\t"} {
		expectWrong(t, fmt.Sprintf("the text %.20q", s), with([]string{s}))
		expectWrong(t, fmt.Sprintf("the last text %.20q", s), with([]string{"a", "b", s}))
	}
	for n := range 256 {
		want := api.ErrArg
		if n == 10 || n >= 32 && n <= 126 {
			want = api.OK
		}
		expect(t, fmt.Sprintf("the text of the byte %d", n), Check(with([]string{"a", string([]byte{byte(n)})})), want)
	}
}

func shapes(names ...string) []api.Shape {
	var l []api.Shape
	for _, s := range names {
		l = append(l, api.Shape{Name: s, Fields: []string{"x"}})
	}
	return l
}

// P7.1: shapes, how many and their names.
func TestCheckShapes(t *testing.T) {
	with := func(l []api.Shape) api.Code {
		return changed(some("return"), func(c *api.Code) { c.Shapes = l })
	}
	expectRight(t, "no shape", with(nil))
	expectRight(t, "the most shapes", with(shapes(someNames(16)...)))
	expectWrong(t, "one shape more", with(shapes(someNames(17)...)))
	expectWrong(t, "many shapes", with(make([]api.Shape, 1<<16)))
	expectWrong(t, "two shapes of one name", with(shapes("P", "P")))
	expectWrong(t, "two shapes of one name, not side by side", with(shapes("P", "Q", "P")))
	expectWrong(t, "the last two shapes of one name", with(shapes("P", "Q", "Q")))
	expectRight(t, "shapes whose names are nearly the same", with(shapes("P", "p", "P1", "P_")))
	expectRight(t, "a shape of a unit's name", with(shapes("main", "two")))
	expectRight(t, "a shape of its field's name", with(shapes("x")))
	for _, s := range notNames() {
		expectWrong(t, fmt.Sprintf("a shape named %.30q", s), with(shapes(s)))
		expectWrong(t, fmt.Sprintf("a last shape named %.30q", s), with(shapes("P", s)))
	}
}

// P7.1: a shape's fields.
func TestCheckFields(t *testing.T) {
	with := func(l ...string) api.Code {
		return changed(some("return"), func(c *api.Code) { c.Shapes[1].Fields = l })
	}
	expectWrong(t, "no field", with())
	expectRight(t, "one field", with("x"))
	expectRight(t, "the most fields", with(someNames(8)...))
	expectWrong(t, "one field more", with(someNames(9)...))
	expectWrong(t, "many fields", with(make([]string, 1<<16)...))
	expectWrong(t, "two fields of one name", with("x", "x"))
	expectWrong(t, "two fields of one name, not side by side", with("x", "y", "z", "x"))
	expectRight(t, "fields whose names are nearly the same", with("x", "X", "x1"))
	for _, s := range notNames() {
		expectWrong(t, fmt.Sprintf("a field named %.30q", s), with(s))
		expectWrong(t, fmt.Sprintf("a last field named %.30q", s), with("x", s))
	}
	first := changed(some("return"), func(c *api.Code) { c.Shapes[0].Fields = nil })
	expectWrong(t, "no field of the first shape", first)
}

// units tells units without anything but their names.
func units(names ...string) []api.Unit {
	var l []api.Unit
	for _, s := range names {
		l = append(l, api.Unit{Name: s, Ins: asm("return")})
	}
	return l
}

// P7.1: units, how many and their names.
func TestCheckUnits(t *testing.T) {
	with := func(names ...string) api.Code { return api.Code{Units: units(names...)} }
	expectWrong(t, "no unit", with())
	expectRight(t, "one unit", with("main"))
	expectRight(t, "a main of another name", with("f"))
	expectRight(t, "the most units", with(someNames(32)...))
	expectWrong(t, "one unit more", with(someNames(33)...))
	expectWrong(t, "many units", api.Code{Units: make([]api.Unit, 1<<16)})
	expectWrong(t, "two units of one name", with("f", "f"))
	expectWrong(t, "two units of one name, not side by side", with("f", "g", "h", "f"))
	expectRight(t, "units whose names are nearly the same", with("f", "F", "f1"))
	for _, s := range notNames() {
		expectWrong(t, fmt.Sprintf("a unit named %.30q", s), with(s))
		expectWrong(t, fmt.Sprintf("a last unit named %.30q", s), with("main", s))
	}
}

// P7.1: Main.
func TestCheckMain(t *testing.T) {
	with := func(n int) api.Code {
		return changed(some("return"), func(c *api.Code) {
			c.Units = append(c.Units, api.Unit{Name: "last", Ins: asm("return")}, api.Unit{Name: "given", Result: true, Stack: 1, Ins: asm("int; return 1")})
			c.Main = n
		})
	}
	expectRight(t, "the first unit", with(0))
	expectRight(t, "another unit", with(3))
	for n, what := range map[int]string{
		math.MinInt: "the least", -1: "below 0", 1: "one with parameters and a result", 2: "one with a parameter", 4: "one with a result",
		5: "behind the last", 6: "further behind", math.MaxInt: "the greatest",
	} {
		expectWrong(t, "Main is "+what, with(n))
	}
	last := changed(with(0), func(c *api.Code) { c.Units, c.Main = c.Units[:4], 3 })
	expectRight(t, "the last unit", last)
}

// P7.1: parameters and slots.
func TestCheckParamsAndSlots(t *testing.T) {
	with := func(params, slots int) api.Code {
		return changed(some("return"), func(c *api.Code) { c.Units[2].Params, c.Units[2].Slots = params, slots })
	}
	for _, c := range []struct {
		params, slots int
		right         bool
	}{
		{-1, 0, false}, {-1, 5, false}, {-1, -1, false}, {math.MinInt, 0, false}, {math.MinInt, math.MinInt, false}, {0, 0, true}, {0, -1, false}, {0, math.MinInt, false},
		{1, 0, false}, {1, 1, true}, {2, 1, false}, {3, 2, false}, {8, 7, false}, {8, 8, true}, {9, 9, false}, {9, 32, false}, {math.MaxInt, math.MaxInt, false},
		{0, 31, true}, {0, 32, true}, {0, 33, false}, {8, 32, true}, {8, 33, false}, {0, math.MaxInt, false}, {math.MaxInt, 32, false},
	} {
		what := fmt.Sprintf("%d parameters and %d slots", c.params, c.slots)
		if c.right {
			expectRight(t, what, with(c.params, c.slots))
		} else {
			expectWrong(t, what, with(c.params, c.slots))
		}
	}
	// What a unit has that is called must be asked ahead of the heights of the one that calls it.
	for _, n := range []int{math.MinInt, -1, 9, math.MaxInt} {
		called := changed(some("call 2; return"), func(c *api.Code) { c.Units[2].Params = n })
		expectWrong(t, fmt.Sprintf("a call of a unit with %d parameters", n), called)
	}
}

// P7.1: the stack.
func TestCheckStack(t *testing.T) {
	for n, right := range map[int]bool{math.MinInt: false, -1: false, 0: true, 1: true, 255: true, 256: true, 257: false, math.MaxInt: false} {
		for unit := range 2 {
			c := changed(some("return"), func(c *api.Code) { c.Units[2*unit].Stack = n })
			what := fmt.Sprintf("a stack of %d", n)
			if right {
				expectRight(t, what, c)
			} else {
				expectWrong(t, what, c)
			}
		}
	}
}

// P7.1: how many instructions.
func TestCheckInstructions(t *testing.T) {
	with := func(n int) api.Code { return some(times(n, "mark 1") + "return") }
	expectWrong(t, "no instruction", some(""))
	expectRight(t, "one instruction", with(0))
	expectRight(t, "the most instructions", with(4095))
	expectWrong(t, "one instruction more", with(4096))
	expectWrong(t, "many instructions", with(1<<16))
	none := changed(some("return"), func(c *api.Code) { c.Units[2].Ins = nil })
	expectWrong(t, "no instruction of the last unit", none)
}

// P7.1: variables.
func TestCheckVariables(t *testing.T) {
	with := func(l ...api.Var) api.Code {
		return changed(some("mark 1; mark 2; return"), func(c *api.Code) { c.Units[0].Vars = l })
	}
	for _, c := range []struct {
		what  string
		v     api.Var
		right bool
	}{
		{"all of it", api.Var{Name: "x", Slot: 0, From: 0, To: 3}, true},
		{"nothing, at the beginning", api.Var{Name: "x", Slot: 0}, true},
		{"nothing, at the end", api.Var{Name: "x", Slot: 2, From: 3, To: 3}, true},
		{"From at To", api.Var{Name: "x", Slot: 1, From: 2, To: 2}, true},
		{"From below 0", api.Var{Name: "x", From: -1, To: 3}, false},
		{"From and To below 0", api.Var{Name: "x", From: -2, To: -1}, false},
		{"From far below 0", api.Var{Name: "x", From: math.MinInt, To: 3}, false},
		{"From above To", api.Var{Name: "x", From: 2, To: 1}, false},
		{"From above a To of 0", api.Var{Name: "x", From: 1, To: 0}, false},
		{"To above how many instructions there are", api.Var{Name: "x", From: 0, To: 4}, false},
		{"From and To above", api.Var{Name: "x", From: 4, To: 4}, false},
		{"To far above", api.Var{Name: "x", From: 0, To: math.MaxInt}, false},
		{"the last slot", api.Var{Name: "x", Slot: 2, From: 1, To: 2}, true},
		{"the slot behind the last", api.Var{Name: "x", Slot: 3, From: 1, To: 2}, false},
		{"a slot below 0", api.Var{Name: "x", Slot: -1, From: 1, To: 2}, false},
		{"the least slot", api.Var{Name: "x", Slot: math.MinInt, From: 1, To: 2}, false},
		{"the greatest slot", api.Var{Name: "x", Slot: math.MaxInt, From: 1, To: 2}, false},
	} {
		other := api.Var{Name: "y", Slot: 1, From: 0, To: 3}
		for _, l := range [][]api.Var{{c.v}, {other, c.v}, {c.v, other}} {
			if c.right {
				expectRight(t, c.what, with(l...))
			} else {
				expectWrong(t, c.what, with(l...))
			}
		}
	}
	for _, s := range notNames() {
		expectWrong(t, fmt.Sprintf("a variable named %.30q", s), with(api.Var{Name: s, To: 3}))
	}
	for _, s := range someNames(12) {
		expectRight(t, "a variable named "+s, with(api.Var{Name: s, To: 3}))
	}
	twice := api.Var{Name: "x", Slot: 1, From: 0, To: 3}
	expectRight(t, "two variables alike", with(twice, twice))
	noSlot := changed(some("return"), func(c *api.Code) { c.Units[0].Slots, c.Units[0].Vars = 0, []api.Var{{Name: "x"}} })
	expectWrong(t, "a variable of a unit without slots", noSlot)
	lastUnit := changed(some("return"), func(c *api.Code) { c.Units[2].Vars = []api.Var{{Name: "x", Slot: 4, To: 1}} })
	expectWrong(t, "a wrong variable of the last unit", lastUnit)
}

// P7.1: an Op that is none.
func TestCheckOps(t *testing.T) {
	for n := api.Op(-3); n < 40; n++ {
		c := changed(some("return; return"), func(c *api.Code) { c.Units[0].Ins[1].Op = n })
		if insByWords(c, c.Units[0], c.Units[0].Ins[1]) {
			expectRight(t, fmt.Sprintf("the Op %d", n), c)
		} else {
			expectWrong(t, fmt.Sprintf("the Op %d", n), c)
		}
	}
	for _, n := range []api.Op{math.MinInt, -1, 35, 36, 256, 1 << 32, math.MaxInt} {
		for _, unit := range []int{0, 1} {
			c := changed(some("return"), func(c *api.Code) { c.Units[unit].Ins = append(c.Units[unit].Ins, api.Ins{Op: n}) })
			expectWrong(t, fmt.Sprintf("the Op %d that is not reached", n), c)
			c = changed(some("return"), func(c *api.Code) { c.Units[unit].Ins[0].Op = n })
			expectWrong(t, fmt.Sprintf("the Op %d that is reached", n), c)
		}
	}
}

// P7.1: each instruction with the least and the greatest A that it may have, and one beyond each, where it is not reached.
func TestCheckOperands(t *testing.T) {
	for op, name := range opNames {
		least, most := 0, 0
		switch name {
		case "mark", "int":
			least, most = math.MinInt, math.MaxInt
		case "bool":
			most = 1
		case "str", "field", "setfield":
			most = 1 // there are two texts
		case "load", "store":
			most = 2 // three slots
		case "jump", "unless":
			most = 4 // five instructions
		case "call":
			most = 2 // three units
		case "new":
			most = 1 // two shapes
		case "array", "print":
			least, most = 1, 256
		}
		with := func(a int) api.Code {
			return changed(some("return; mark; mark; mark; mark"), func(c *api.Code) { c.Units[0].Ins[3] = api.Ins{Op: api.Op(op), A: a} })
		}
		for _, a := range []int{least, min(least+1, most), max(most-1, least), most} {
			expectRight(t, fmt.Sprintf("%s %d", name, a), with(a))
		}
		if name == "mark" || name == "int" {
			expectRight(t, name+" 0", with(0))
			continue
		}
		for _, a := range []int{math.MinInt, least - 1, most + 1, most + 1<<32, math.MaxInt} {
			expectWrong(t, fmt.Sprintf("%s %d", name, a), with(a))
		}
	}
}

// P7.1: what A may be hangs on the unit, and on what there is.
func TestCheckOperandsOfOthers(t *testing.T) {
	nothing := api.Code{Units: []api.Unit{{Name: "main", Ins: asm("return; mark")}}}
	for _, name := range []string{"str", "field", "setfield", "load", "store", "new"} {
		expectWrong(t, name+" of nothing", changed(nothing, func(c *api.Code) { c.Units[0].Ins[1].Op = opOf(name) }))
	}
	for _, c := range []struct {
		unit  int
		ins   string
		right bool
	}{
		{0, "return 0", true}, {0, "return 1", false}, {1, "return 1", true}, {1, "return 0", false}, {1, "return 2", false}, {1, "return -1", false}, {2, "return 0", true}, {2, "return 1", false},
		{1, "load 1", true}, {1, "load 2", false}, {2, "store 3", true}, {2, "store 4", false},
		{1, "jump 3", true}, {1, "jump 4", false}, {2, "jump 2", true}, {2, "jump 3", false}, {2, "unless 2", true}, {2, "unless 3", false},
	} {
		code := changed(some("return"), func(code *api.Code) { code.Units[c.unit].Ins = append(code.Units[c.unit].Ins, asm(c.ins)...) })
		if what := fmt.Sprintf("%s in the unit %d", c.ins, c.unit); c.right {
			expectRight(t, what, code)
		} else {
			expectWrong(t, what, code)
		}
	}
	three := changed(some("return"), func(c *api.Code) {
		c.Units[0].Ins = append(c.Units[0].Ins, asm("str 2; field 2; setfield 2; new 2")...)
	})
	expectWrong(t, "a text and a shape too few", three)
	three.Strs = append(three.Strs, "c")
	expectWrong(t, "a shape too few", three)
	three.Shapes = append(three.Shapes, api.Shape{Name: "R", Fields: []string{"x"}})
	expectRight(t, "enough texts and shapes", three)
}
