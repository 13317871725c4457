package eval

import (
	"fmt"
	"math"
	"strings"
	"testing"

	"hindcast/api"
	"hindcast/heap"
	"hindcast/syntax"
)

// here is a spot with values of every kind.
func here() spot {
	return spot{
		vars: []api.Bind{
			named("a", num(9)), named("a", num(2)), named("b", num(-3)), named("low", num(math.MinInt)), named("high", num(math.MaxInt)),
			named("t", bit(1)), named("f", bit(0)), named("s", txt("ab")), named("e", txt("")), named("n", none),
			named("long", txt(strings.Repeat("x", 254))), named("longest", txt(strings.Repeat("y", 255))),
			named("l", ref(0)), named("p", ref(1)), named("o", ref(2)), named("m", ref(3)), named("w", ref(4)), named("z", ref(5)),
		},
		objects: []api.Obj{
			obj("", num(5), num(6)), obj("P", num(3), txt("q")), obj(""), obj("", ref(0), ref(1), ref(3)), obj("W", bit(1)), obj("Z"),
		},
		shapes: []api.Shape{shape("P", "x", "s"), shape("Q"), shape("P", "x", "y"), shape("W", "c", "d", "c"), shape("Z")},
	}
}

// The chapter's example.
func TestExample(t *testing.T) {
	s := spot{vars: []api.Bind{named("a", num(2)), named("l", ref(0))}, objects: []api.Obj{obj("", num(5), num(6))}}
	s.comes(t, "a * l[1] - len(l)", num(10))
	s.wrong(t, api.ErrFault, "l[2]")
	s.wrong(t, api.ErrType, "a && true")
	s.comes(t, "false && zz", bit(0))
	s.wrong(t, api.ErrName, "zz")
	s.wrong(t, api.ErrType, "f(1)")
	s.wrong(t, api.ErrFault, "1 / 0")
}

// P13.1: a number, a truth, a text is itself, a name the last of its variables.
func TestAlone(t *testing.T) {
	s := here()
	s.comes(t, "0", num(0))
	s.comes(t, "9223372036854775807", num(math.MaxInt))
	s.comes(t, "true", bit(1))
	s.comes(t, "false", bit(0))
	s.comes(t, `""`, txt(""))
	s.comes(t, `"a\n\"b"`, txt("a\n\"b"))
	s.comes(t, "a", num(2))
	s.comes(t, "n", none)
	s.comes(t, "(m)", ref(3))
	s.comes(t, "longest", txt(strings.Repeat("y", 255)))
	s.wrong(t, api.ErrName, "zz", "A", "aa", "len", "P", "x")
	s.vars = append(s.vars, named("a", txt("last")), named("len", num(7)), named("P", bit(0)))
	s.comes(t, "a", txt("last"))
	s.comes(t, "len + len(a)", num(11))
	s.comes(t, "P", bit(0))
	s.vars = append(s.vars, named("a", none))
	s.comes(t, "a", none)
	spot{}.comes(t, "1 + 1", num(2))
	spot{}.wrong(t, api.ErrName, "a")
}

// What no token could be may be a variable's name: nothing names it.
func TestNamesThatAreNone(t *testing.T) {
	s := spot{vars: []api.Bind{named("", num(1)), named("a b", num(2)), named("while", num(3)), named(strings.Repeat("a", 300), num(4)), named("a", num(5))}}
	s.comes(t, "a", num(5))
	s.wrong(t, api.ErrName, "b")
	s.wrongTree(t, api.ErrArg, api.Expr{Kind: api.EName})
	s.wrongTree(t, api.ErrArg, api.Expr{Kind: api.EName, S: "while"})
}

// P13.1, P13.2: no heap, and one that nothing made, ahead of all else that is wrong.
func TestNoHeap(t *testing.T) {
	vars := []api.Bind{named("a", num(1)), named("bad", ref(0))}
	for _, h := range []*heap.Heap{nil, {}, new(heap.Heap)} {
		for _, n := range []int{0, 1, 2} {
			for _, x := range []api.Expr{read("1"), read("zz"), read("1 / 0"), read("[1]"), {}, {Kind: 99}} {
				v, err := Eval(x, vars[:n], h, nil)
				expect(t, shown(x), v, none)
				expect(t, shown(x), err, api.ErrNil)
			}
			for _, x := range []string{"1", "zz", "1 / 0", "[1]", "", "1 +", "@", strings.Repeat("1", 5000)} {
				s, err := Text(x, vars[:n], h, nil)
				expect(t, x, s, "")
				expect(t, x, err, api.ErrNil)
			}
		}
	}
	for _, h := range []*heap.Heap{heap.New(0), heap.New(-1), heap.New(9), heap.New(9).Copy()} {
		s, err := Text("a + 1", vars[:1], h, nil)
		expect(t, "a heap without objects", s, "2")
		expect(t, "a heap without objects", err, api.OK)
	}
}

func kids(l ...api.Expr) []api.Expr { return l }

// deep tells an expression of a depth.
func deep(n int) api.Expr {
	x := api.Expr{Kind: api.EInt, N: 1}
	for range n - 1 {
		x = api.Expr{Kind: api.EUnary, S: "-", Kids: kids(x)}
	}
	return x
}

// P13.1: ErrArg of what PrintExpr refuses with that, wherever it stands.
func TestNoExpression(t *testing.T) {
	one := read("1")
	within := make([]api.Expr, 1)
	within[0] = api.Expr{Kind: api.EUnary, S: "-", Kids: within}
	for _, x := range []api.Expr{
		{}, {Kind: -1}, {Kind: 12}, {Kind: api.EInt, N: -1}, {Kind: api.EInt, S: "a"}, {Kind: api.EInt, Kids: kids(one)},
		{Kind: api.EBool, N: 2}, {Kind: api.EBool, N: -1}, {Kind: api.EBool, S: "a"}, {Kind: api.EStr, N: 1}, {Kind: api.EStr, S: "\x00"}, {Kind: api.EStr, S: "é"},
		{Kind: api.EStr, S: strings.Repeat("a", 256)}, {Kind: api.EName, S: "1a"}, {Kind: api.EName, S: "true"}, {Kind: api.EName, S: "a", N: 1}, {Kind: api.EName, S: strings.Repeat("a", 21)},
		{Kind: api.ECall, S: ""}, {Kind: api.ECall, S: "if"}, {Kind: api.ECall, S: "len", N: 1, Kids: kids(one)}, {Kind: api.EUnary, S: "+", Kids: kids(one)}, {Kind: api.EUnary, S: "-"},
		{Kind: api.EUnary, S: "-", Kids: kids(one, one)}, {Kind: api.EBinary, S: "+", Kids: kids(one)}, {Kind: api.EBinary, S: "=", Kids: kids(one, one)}, {Kind: api.EBinary, S: "+", Kids: kids(one, one, one)},
		{Kind: api.EIndex, Kids: kids(one)}, {Kind: api.EIndex, S: "x", Kids: kids(read("l"), one)}, {Kind: api.EField, S: "x"}, {Kind: api.EField, S: "1", Kids: kids(read("p"))},
		{Kind: api.EField, S: "x", Kids: kids(read("p"), one)}, {Kind: api.EArray}, {Kind: api.ENew, S: "fn"}, deep(25), deep(60), within[0],
	} {
		here().wrongTree(t, api.ErrArg, x)
		here().wrongTree(t, api.ErrArg, api.Expr{Kind: api.EUnary, S: "!", Kids: kids(x)})
		here().wrongTree(t, api.ErrArg, api.Expr{Kind: api.EBinary, S: "||", Kids: kids(read("true"), x)})
		here().wrongTree(t, api.ErrArg, api.Expr{Kind: api.EBinary, S: "+", Kids: kids(read("zz"), x)})
		here().wrongTree(t, api.ErrArg, api.Expr{Kind: api.ECall, S: "f", Kids: kids(x)})
		here().wrongTree(t, api.ErrArg, api.Expr{Kind: api.EArray, Kids: kids(one, x)})
	}
	v, err := here().eval(deep(24))
	expect(t, "as deep as may be", v, num(-1))
	expect(t, "as deep as may be", err, api.OK)
}

// Lines are not looked at.
func TestLines(t *testing.T) {
	x := read("a + len(l) * 3")
	x.Line, x.Kids[0].Line, x.Kids[1].Line = -5, math.MaxInt, 0
	v, err := here().eval(x)
	expect(t, "with other lines", v, num(8))
	expect(t, "with other lines", err, api.OK)
}

// P13.1: an expression that PrintExpr refuses, because its text would be too long, comes to what it comes to.
func TestLongExpression(t *testing.T) {
	x := read("0")
	for range 20 {
		x = api.Expr{Kind: api.EBinary, S: "+", Kids: kids(x, api.Expr{Kind: api.ECall, S: "len", Kids: kids(api.Expr{Kind: api.EStr, S: strings.Repeat("a", 255)})})}
	}
	_, err := syntax.PrintExpr(x)
	expect(t, "PrintExpr", err, api.ErrBig)
	v, err := here().eval(x)
	expect(t, "Eval", v, num(20*255))
	expect(t, "Eval", err, api.OK)
	for what, want := range map[string]api.Errno{"zz": api.ErrName, "[1]": api.ErrType, "1 / 0": api.ErrFault} {
		here().wrongTree(t, want, api.Expr{Kind: api.EBinary, S: "*", Kids: kids(x, read(what))})
	}
	bad := api.Expr{Kind: api.EBinary, S: "*", Kids: kids(x, api.Expr{Kind: api.EInt, N: -1})}
	here().wrongTree(t, api.ErrArg, bad)
}

// P13.1: ErrArg of a variable whose value is not right, also of one that nothing names, ahead of what is wrong in the expression.
func TestValuesThatAreNotRight(t *testing.T) {
	for _, v := range []api.Val{
		{Kind: -1}, {Kind: 5}, {N: 1}, {S: "a"}, {Kind: api.VInt, S: "a"}, {Kind: api.VBool, N: 2}, {Kind: api.VBool, N: -1}, {Kind: api.VBool, N: 1, S: "a"},
		{Kind: api.VStr, S: "a", N: 1}, txt("\x00"), txt("\xff"), txt(strings.Repeat("a", 256)), ref(-1), ref(6), ref(math.MaxInt), ref(math.MinInt), {Kind: api.VRef, S: "a"},
	} {
		for _, name := range []string{"new", "a", "a b", ""} {
			for _, first := range []bool{true, false} {
				s := here()
				s.vars = append(s.vars, named(name, v))
				if first {
					s.vars = append([]api.Bind{named(name, v)}, here().vars...)
				}
				s.wrong(t, api.ErrArg, "a", "1", "zz", "1 / 0", "a && true", "[1]")
			}
		}
		s := here()
		s.vars = []api.Bind{named("a", v)}
		s.wrong(t, api.ErrArg, "a", "1")
		if got, err := s.text("1 +"); got != "" || err != api.ErrSyntax {
			t.Error("a text that is none comes ahead of a value that is not right", got, err)
		}
	}
	s := here()
	s.vars = append(s.vars, named("last", ref(5)), named("no", none), named("text", txt("\n\x7e")))
	s.comes(t, "last", ref(5))
	s.comes(t, "text", txt("\n\x7e"))
	s = spot{vars: []api.Bind{named("r", ref(0))}}
	s.wrong(t, api.ErrArg, "1")
}

// P13.1: the second side of && and || is reckoned just where the first one does not settle it.
func TestAndOr(t *testing.T) {
	s := here()
	for _, bad := range []string{"zz", "1 / 0", "1", "l[9]", "f(1)", "[1]", "p.zz", "-t", `"x"`, "l", "n"} {
		s.comes(t, "f && "+bad, bit(0))
		s.comes(t, "t || "+bad, bit(1))
		s.comes(t, "f && ("+bad+") || t", bit(1))
		s.comes(t, "t && f && "+bad, bit(0))
	}
	for bad, want := range map[string]api.Errno{"zz": api.ErrName, "(1 / 0)": api.ErrFault, "1": api.ErrType, "l[9]": api.ErrFault, "f(1)": api.ErrType, "n": api.ErrType, "p.zz": api.ErrName, "p": api.ErrType, "s": api.ErrType, "l": api.ErrType, "0": api.ErrType} {
		s.wrong(t, want, "t && "+bad, "f || "+bad, bad+" && f", bad+" || t", bad+" && zz", bad+" || 1 / 0", "t && t && "+bad)
	}
	for a, x := range map[string]int{"true": 1, "false": 0} {
		for b, y := range map[string]int{"t": 1, "f": 0} {
			s.comes(t, a+" && "+b, bit(x&y))
			s.comes(t, a+" || "+b, bit(x|y))
		}
	}
}

// P13.1: every sign of all values that are there, held against the judge; each of the pairs, and each sign ahead.
func TestAllSigns(t *testing.T) {
	s := here()
	var names []string
	for _, b := range s.vars[1:] {
		names = append(names, b.Name)
	}
	names = append(names, "zz", "l[0]", "l[2]", "p.x", "p.s", "m[1]", "(1 / 0)", "[1]")
	check := func(x string) {
		t.Helper()
		j := judge{spot: s}
		want, err := j.verdict(read(x))
		if err != api.OK {
			s.wrong(t, err, x)
			return
		}
		s.comes(t, x, want)
	}
	for _, a := range names {
		for _, x := range []string{"-%s", "!%s", "len(%s)", "str(%s)", "%s.x", "%s.s", "%s.c", "%s.d", "- -%s"} {
			check(fmt.Sprintf(x, a))
		}
		for _, b := range names {
			for _, sign := range []string{"+", "-", "*", "/", "%", "==", "!=", "<", "<=", ">", ">=", "&&", "||"} {
				check(a + " " + sign + " " + b)
			}
			check(a + "[" + b + "]")
		}
	}
}

// P13.1: what is wrong first is told: kids from the left, each ahead of what is asked of the expression.
func TestWhatIsWrongFirst(t *testing.T) {
	s := here()
	for _, sign := range []string{"+", "-", "*", "/", "%", "==", "!=", "<", "<=", ">", ">="} {
		s.wrong(t, api.ErrName, "zz "+sign+" (1 / 0)", "zz "+sign+" [1]", "t "+sign+" zz", "l "+sign+" zz")
		s.wrong(t, api.ErrFault, "(1 / 0) "+sign+" zz", "(1 / 0) "+sign+" [1]", "n "+sign+" (1 / 0)", "l[2] "+sign+" p.zz")
		s.wrong(t, api.ErrType, "[1] "+sign+" zz", "f() "+sign+" (1 / 0)", "(-t) "+sign+" zz", "l "+sign+" 0")
	}
	s.wrong(t, api.ErrName, "zz[1 / 0]", "a[zz]", "p[zz]", "l[zz]", "zz[zz]", "-zz", "!zz", "len(zz)", "str(zz)", "zz.x", "(zz / 0).x")
	s.wrong(t, api.ErrFault, "l[2][zz]", "s[1 / 0]", "l[1 / 0]", "-(1 / 0)", "!(1 / 0)", "len(1 / 0)", "str(l[-1])", "m[7].zz", "l[1 % 0]", "s + longest + t")
	s.wrong(t, api.ErrType, "(a && zz)[1 / 0]", "l[-t]", "(-t).zz", "a.zz", "l.zz", "n.x", "t / 0", "0 / t", "l[t]", "longest + t", "t % 0")
}

// P13.1: division and its rest.
func TestDivision(t *testing.T) {
	s := here()
	s.wrong(t, api.ErrFault, "1 / 0", "1 % 0", "0 / 0", "0 % 0", "low / 0", "low % 0", "a / (a - 2)", "a % (b + 3)")
	s.comes(t, "low / -1", num(math.MinInt))
	s.comes(t, "low % -1", num(0))
	s.comes(t, "7 / -2", num(-3))
	s.comes(t, "-7 / 2", num(-3))
	s.comes(t, "-7 % 2", num(-1))
	s.comes(t, "7 % -2", num(1))
	s.comes(t, "0 / -5", num(0))
	s.comes(t, "low / 2", num(math.MinInt/2))
	s.comes(t, "high % low", num(math.MaxInt))
	s.comes(t, "low % high", num(-1))
}

// P13.1: numbers wrap round.
func TestWrap(t *testing.T) {
	s := here()
	s.comes(t, "high + 1", num(math.MinInt))
	s.comes(t, "low - 1", num(math.MaxInt))
	s.comes(t, "-low", num(math.MinInt))
	s.comes(t, "low * low", num(0))
	s.comes(t, "high * high", num(1))
	s.comes(t, "low * -1", num(math.MinInt))
	s.comes(t, "high * 2", num(-2))
	s.comes(t, "low + low", num(0))
}

// P13.1: texts may be put together to MaxText bytes.
func TestTexts(t *testing.T) {
	s := here()
	s.comes(t, `long + "a"`, txt(strings.Repeat("x", 254)+"a"))
	s.comes(t, `"a" + long`, txt("a"+strings.Repeat("x", 254)))
	s.comes(t, "e + longest + e", txt(strings.Repeat("y", 255)))
	s.comes(t, `s + "" + s`, txt("abab"))
	s.comes(t, "str(longest)", txt(strings.Repeat("y", 255)))
	s.wrong(t, api.ErrFault, "long + s", "s + long", `longest + "z"`, `"z" + longest`, "longest + longest", "len(longest + s)", "long + str(a) + str(a)")
	s.wrong(t, api.ErrType, "s + a", "a + s", "longest + a", "t + longest", "s - s", "s * a", "s / s", "-s", "!s", "s && t")
	s.comes(t, `"a" < "b" && "a" < "aa" && "" < "a" && "Z" < "a"`, bit(1))
	s.comes(t, `"a" <= "a" && "b" > "ab" && "b" >= "b" && !("a" < "a") && !("b" > "b")`, bit(1))
}

// P13.1: == and != are for two numbers, two truths, two texts.
func TestSame(t *testing.T) {
	s := here()
	s.wrong(t, api.ErrType, "l == l", "l != l", "p == p", "p != l", "n == n", "n != n", "a == t", "t == a", "s != a", "a == l", "l == a", "p != s", "n == a", "a != n", "o == o", "m[0] == l", "1 == true", `0 != ""`, `false == ""`)
	for x, want := range map[string]int{"a == 2": 1, "a != 2": 0, "a == 3": 0, "a != 3": 1, "t == t": 1, "t == f": 0, "t != f": 1, "f != f": 0, `s == "ab"`: 1, `s == "a"`: 0, `s != "AB"`: 1, `e != ""`: 0, "low == high + 1": 1} {
		s.comes(t, x, bit(want))
	}
}

// P13.1: an index is one of an array's cells.
func TestIndex(t *testing.T) {
	s := here()
	s.comes(t, "l[0]", num(5))
	s.comes(t, "l[1]", num(6))
	s.comes(t, "m[0][1]", num(6))
	s.comes(t, "m[1]", ref(1))
	s.comes(t, "m[1].s", txt("q"))
	s.comes(t, "m[2][2][2][0][0]", num(5))
	s.wrong(t, api.ErrFault, "l[2]", "l[3]", "l[-1]", "l[low]", "l[high]", "o[0]", "o[-1]", "m[3]")
	s.wrong(t, api.ErrType, "p[0]", "w[0]", "z[0]", "z[5]", "s[0]", "a[0]", "t[0]", "n[0]", "l[t]", "l[s]", "l[l]", "l[n]", "m[1][0]", "p[-1]", "p[t]", "s[9]", "l[0][0]")
}

// P13.1: a field is a record's cell, by the first shape that its tag names, and that one's first such field.
func TestField(t *testing.T) {
	s := here()
	s.comes(t, "p.x", num(3))
	s.comes(t, "p.s", txt("q"))
	s.comes(t, "w.c", bit(1))
	s.wrong(t, api.ErrName, "p.y", "p.zz", "p.P", "z.x", "w.x")
	s.wrong(t, api.ErrFault, "w.d")
	s.wrong(t, api.ErrType, "l.x", "o.x", "a.x", "t.x", "s.x", "n.x", "l.zz", "m.x", "p.x.x")
	s.shapes = nil
	s.wrong(t, api.ErrName, "p.x", "p.zz", "z.x")
	s.wrong(t, api.ErrType, "l.x", "a.x")
	s.shapes = []api.Shape{shape("", "x"), shape("p", "x"), shape("PP", "x"), shape("Z", "x"), shape("P", "s"), shape("P", "x"), shape("Z", "y")}
	s.wrong(t, api.ErrName, "p.x", "z.y")
	s.wrong(t, api.ErrFault, "z.x")
	s.wrong(t, api.ErrType, "l.x")
	s.comes(t, "p.s", num(3))
	s.shapes = []api.Shape{shape("P", "", "x", "while", "x", "s")}
	s.comes(t, "p.x", txt("q"))
	s.wrong(t, api.ErrFault, "p.s")
	s.wrong(t, api.ErrName, "p.y")
}

// P13.1: len and str of every kind of value, with other numbers of kids.
func TestLenAndStr(t *testing.T) {
	s := here()
	for x, want := range map[string]int{"len(l)": 2, "len(o)": 0, "len(m)": 3, "len(p)": 2, "len(z)": 0, "len(s)": 2, "len(e)": 0, "len(longest)": 255, "len(m[1])": 2, `len("\n")`: 1, "len(str(low))": 20} {
		s.comes(t, x, num(want))
	}
	for x, want := range map[string]string{"str(a)": "2", "str(b)": "-3", "str(low)": "-9223372036854775808", "str(t)": "true", "str(f)": "false", "str(s)": "ab", "str(e)": "", `str("\"")`: `"`, "str(0)": "0", "str(str(1))": "1"} {
		s.comes(t, x, txt(want))
	}
	s.wrong(t, api.ErrType, "len(a)", "len(t)", "len(n)", "str(l)", "str(p)", "str(o)", "str(n)", "str(z)")
	for _, f := range []string{"len", "str"} {
		s.wrong(t, api.ErrType, f+"()", f+"(s, s)", f+"(zz, s)", f+"(s, zz)", f+"(1 / 0, s)", f+"(s, s, s)")
	}
	s.vars = append(s.vars, named("str", num(1)), named("len", num(1)))
	s.comes(t, "len(s) + str", num(3))
}

// P13.1: what makes something, or might change something, is refused ahead of its kids.
func TestAllElse(t *testing.T) {
	s := here()
	s.wrong(t, api.ErrType, "f()", "f(1)", "f(zz)", "f(1 / 0)", "print(zz)", "print()", "print(1 / 0, zz)", "input()", "input(zz)", "array(1, 2)", "array(zz, 1 / 0)", "main()", "a()", "Len(s)", "lens(zz)",
		"new P(a, s)", "new P()", "new P(zz, 1 / 0)", "new Nothing(zz)", "[1]", "[zz]", "[1 / 0, zz]", "[l[9]]", "[1][0]", "[zz][1 / 0]", "new P(zz, s).x", "len([zz])", "len([1])", "str(input())", "-f(zz)")
	s.wrong(t, api.ErrName, "zz + f()", "l[zz] + [1]")
}

// P13.2: a text that is no expression's: what syntax.Expr tells of it, and nothing beside it.
func TestTextOfNoExpression(t *testing.T) {
	s := here()
	for x, want := range map[string]api.Errno{
		"": api.ErrSyntax, " ": api.ErrSyntax, "1 +": api.ErrSyntax, "1 2": api.ErrSyntax, "zz +": api.ErrSyntax, "@": api.ErrSyntax, "l[": api.ErrSyntax, "a;": api.ErrSyntax, "a = 1": api.ErrSyntax, "let": api.ErrSyntax, "(a": api.ErrSyntax,
		"\x00": api.ErrSyntax, "a & b": api.ErrSyntax, strings.Repeat("-", 24) + "1": api.ErrDeep, strings.Repeat(" ", 4096) + "1": api.ErrBig, strings.Repeat("a", 21): api.ErrBig,
		"9223372036854775808": api.ErrBig, `"` + strings.Repeat("a", 256) + `"`: api.ErrBig,
	} {
		_, _, err := syntax.Expr(x)
		expect(t, "syntax.Expr", err, want)
		got, err := s.text(x)
		expect(t, x, got, "")
		expect(t, x, err, want)
	}
	s.comes(t, strings.Repeat(" ", 4095)+"1", num(1))
	s.comes(t, strings.Repeat("-", 23)+"1", num(-1))
	s.comes(t, "a // and no more", num(2))
}

// P13.2: a value is shown as the heap shows it.
func TestTextShown(t *testing.T) {
	s := here()
	s.objects = append(s.objects, obj("", num(0), num(1), num(2), num(3), num(4), num(5), num(6), num(7), num(8)), obj("Deep", ref(3), ref(7)))
	s.vars = append(s.vars, named("nine", ref(6)), named("deep", ref(7)))
	for x, want := range map[string]string{
		"n": "none", "b": "-3", "t": "true", "s": `"ab"`, `"\n"`: `"\n"`, "l": "[5, 6]", "o": "[]", "p": `P(3, "q")`, "z": "Z()", "m": `[[5, 6], P(3, "q"), [..., ..., ...]]`,
		"nine": "[0, 1, 2, 3, 4, 5, 6, 7, ...]", "deep": "Deep([..., ..., ...], Deep(..., ...))",
		"longest": `"` + strings.Repeat("y", 196) + "...", `s + long`: "", `"a" + long`: `"a` + strings.Repeat("x", 195) + "...",
	} {
		got, err := s.text(x)
		expect(t, x, got, want)
		expect(t, x, err == api.OK, want != "")
	}
}

// A panic that is none of this package's is a mistake, which must not be taken for an answer.
func TestMistake(t *testing.T) {
	defer func() { expect(t, "what goes on up", recover(), any("a mistake")) }()
	attempt(func() api.Val { panic("a mistake") })
}
