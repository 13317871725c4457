package code

import (
	"fmt"
	"math"
	"slices"
	"testing"

	"hindcast/api"
)

// expectList holds the lines of a code's main unit against those that it has.
func expectList(t *testing.T, c api.Code, want ...string) {
	t.Helper()
	expectRight(t, fmt.Sprint(want), c)
	if l, err := List(c); err != api.OK || !slices.Equal(l, want) {
		t.Errorf("%q, %d, not %q", l, err, want)
	}
}

// P7.4: each op's name, and A where it stands, also where it is 0.
func TestListOps(t *testing.T) {
	for _, c := range []struct {
		op   api.Op
		a    int
		want string
	}{
		{api.OpMark, 0, "mark 0"}, {api.OpMark, 12, "mark 12"}, {api.OpMark, -5, "mark -5"},
		{api.OpInt, 0, "int 0"}, {api.OpInt, math.MinInt, "int -9223372036854775808"}, {api.OpInt, math.MaxInt, "int 9223372036854775807"},
		{api.OpBool, 0, "bool 0"}, {api.OpBool, 1, "bool 1"},
		{api.OpStr, 0, "str 0"}, {api.OpStr, 1, "str 1"},
		{api.OpLoad, 0, "load 0"}, {api.OpLoad, 2, "load 2"},
		{api.OpStore, 0, "store 0"}, {api.OpStore, 1, "store 1"},
		{api.OpPop, 0, "pop"}, {api.OpAdd, 0, "add"}, {api.OpSub, 0, "sub"}, {api.OpMul, 0, "mul"}, {api.OpDiv, 0, "div"}, {api.OpRem, 0, "rem"},
		{api.OpNeg, 0, "neg"}, {api.OpNot, 0, "not"},
		{api.OpEq, 0, "eq"}, {api.OpNe, 0, "ne"}, {api.OpLt, 0, "lt"}, {api.OpLe, 0, "le"}, {api.OpGt, 0, "gt"}, {api.OpGe, 0, "ge"},
		{api.OpJump, 0, "jump 0"}, {api.OpJump, 2, "jump 2"},
		{api.OpUnless, 0, "unless 0"}, {api.OpUnless, 1, "unless 1"},
		{api.OpCall, 0, "call 0"}, {api.OpCall, 2, "call 2"},
		{api.OpReturn, 0, "return 0"},
		{api.OpArray, 1, "array 1"}, {api.OpArray, 256, "array 256"},
		{api.OpNew, 0, "new 0"}, {api.OpNew, 1, "new 1"},
		{api.OpIndex, 0, "index"}, {api.OpSetIndex, 0, "setindex"},
		{api.OpField, 0, "field 0"}, {api.OpField, 1, "field 1"}, {api.OpSetField, 0, "setfield 0"}, {api.OpSetField, 1, "setfield 1"},
		{api.OpLen, 0, "len"}, {api.OpShow, 0, "show"}, {api.OpFill, 0, "fill"}, {api.OpInput, 0, "input"},
		{api.OpPrint, 1, "print 1"}, {api.OpPrint, 256, "print 256"},
	} {
		code := changed(some("return; mark; mark"), func(code *api.Code) { code.Units[0].Ins[1] = api.Ins{Op: c.op, A: c.a} })
		expectList(t, code, "fn main", "0 return 0", "1 "+c.want, "2 mark 0", "fn two", "0 mark 7", "1 load 0", "2 return 1", "fn one", "0 mark 9", "1 return 0")
	}
}

// P7.4: each op is asked for, and its name is the chapter's at its number.
func TestListNames(t *testing.T) {
	expect(t, "how many ops there are", len(opNames), int(api.OpPrint)+1)
	for _, n := range needs {
		c := around(n.ins, n.takes, n.puts, 256)
		l, err := List(c)
		expect(t, "the error", err, api.OK)
		if !slices.Equal(l, listByWords(c)) {
			t.Errorf("%s: %q", n.ins, l)
		}
	}
}

// P7.4: numbers of instructions of one digit, and of more; units in their order, whatever Main is.
func TestListUnits(t *testing.T) {
	c := api.Code{Units: append(units("b", "a"), api.Unit{Name: "c", Ins: asm(times(1001, "mark") + "return")}), Main: 2}
	want := []string{"fn b", "0 return 0", "fn a", "0 return 0", "fn c"}
	for n := range 1001 {
		want = append(want, fmt.Sprintf("%d mark 0", n))
	}
	expectList(t, c, append(want, "1001 return 0")...)
}
