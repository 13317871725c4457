package types

import (
	"slices"
	"strings"
	"testing"

	"hindcast/api"
	"hindcast/syntax"
)

// world is a program in which functions and variables of many types are there; what has the name none has no result.
const world = `
record P { x: int, s: str, l: [P], q: Q }
record Q { b: bool }
fn none() { }
fn noneOf(a: int) { }
fn f(a: int, b: str, c: [P]): [[bool]] { return [[true]]; }
fn p(): P { return p(); }
fn main() { }
`

var worldVars = []api.Param{param("i", "int"), param("b", "bool"), param("s", "str"), param("p", "P"), param("q", "Q"), param("li", "[int]"), param("lp", "[P]"), param("ll", "[[int]]"), param("f", "int")}

// asked is an expression, its type or the error that Of tells, and the expression in whose line it tells it.
type asked struct {
	source string
	want   string
	err    api.Errno
	told   string
}

func (a asked) test(t *testing.T, p api.Program, vars []api.Param) {
	t.Helper()
	e := expr(t, a.source)
	n := 0
	e = relined{func(int) int { n++; return (n*7919)%10007*2 - 9999 }}.expr(e)
	got, line, err := ofCopy(t, p, vars, e)
	told := ""
	if line != 0 {
		told = toldInExpr(e, line)
	}
	if got != a.want || err != a.err || told != a.told {
		t.Errorf("%s: %q, error %d at %q (%d), not %q, %d at %q", a.source, got, err, told, line, a.want, a.err, a.told)
	}
}

func wellTyped(s, want string) asked { return asked{s, want, api.OK, ""} }

func noType(s, told string) asked { return asked{s, "", api.ErrType, told} }

func noName(s, told string) asked { return asked{s, "", api.ErrName, told} }

func testExprs(t *testing.T, l []asked) {
	t.Helper()
	p := parse(t, world)
	for _, a := range l {
		a.test(t, p, worldVars)
	}
}

// P5.2: numbers, truths, texts and names.
func TestOfPlain(t *testing.T) {
	testExprs(t, []asked{
		wellTyped("0", "int"),
		wellTyped("9223372036854775807", "int"),
		wellTyped("true", "bool"),
		wellTyped("false", "bool"),
		wellTyped(`""`, "str"),
		wellTyped(`"int"`, "str"),
		wellTyped("i", "int"),
		wellTyped("p", "P"),
		wellTyped("ll", "[[int]]"),
		wellTyped("f", "int"),
		noName("z", "z"),
		noName("none", "none"),
		noName("P", "P"),
		noName("int", "int"),
		noName("len", "len"),
		noName("x", "x"),
	})
}

// P5.2: each sign with kids of each type, and with one that has none, as the chapter's list has it.
func TestOfSigns(t *testing.T) {
	kids := map[string]string{"int": "1", "bool": "true", "str": `"a"`, "[int]": "[1]", "[str]": `["a"]`, "[[int]]": "[[1]]", "P": "p", "Q": "q", "[P]": "lp", "": "none()"}
	for _, sign := range strings.Fields("|| && == != < <= > >= + - * / %") {
		for a, left := range kids {
			for b, right := range kids {
				s := left + " " + sign + " " + right
				if want := signType(a, sign, b); want != "" {
					testExprs(t, []asked{wellTyped(s, want)})
				} else {
					testExprs(t, []asked{noType(s, s)})
				}
			}
		}
	}
	for a, kid := range kids {
		for _, sign := range []string{"-", "!"} {
			if sign+a == "-int" || sign+a == "!bool" {
				testExprs(t, []asked{wellTyped(sign+kid, a)})
			} else {
				testExprs(t, []asked{noType(sign+kid, sign+kid)})
			}
		}
	}
	testExprs(t, []asked{
		noName("y + z", "y"),
		noName("true + z", "z"),
		noName("none() + z", "z"),
		noName("none() && z", "z"),
		noType("(1 + true) * z", "1 + true"),
		noType("1 * (2 + true)", "2 + true"),
		noType("1 - (true - 2) + z", "true - 2"),
		noName("-z", "z"),
		noName("!z", "z"),
		noType("-!1", "!1"),
		noType("!-1", "!-1"),
		wellTyped("--i", "int"),
		wellTyped("1 + 2 * 3 < len(s) == !b && (s < str(i) || li[0] != -ll[0][1] % 2)", "bool"),
		wellTyped(`s + "a" + str(1)`, "str"),
	})
}

// P5.2: cells, fields and arrays.
func TestOfParts(t *testing.T) {
	testExprs(t, []asked{
		wellTyped("li[0]", "int"),
		wellTyped("ll[i]", "[int]"),
		wellTyped("ll[0][1]", "int"),
		wellTyped("lp[0]", "P"),
		wellTyped("p.l[1].l[0].q.b", "bool"),
		wellTyped("f(1, s, lp)[0][1]", "bool"),
		noType("i[0]", "i[0]"),
		noType("s[0]", "s[0]"),
		noType("p[0]", "p[0]"),
		noType("none()[0]", "none()[0]"),
		noType("li[true]", "li[true]"),
		noType("li[li]", "li[li]"),
		noType("li[none()]", "li[none()]"),
		noType("li[s]", "li[s]"),
		noType("li[0][0]", "li[0][0]"),
		noName("i[z]", "z"),
		noName("y[z]", "y"),
		noName("none()[z]", "z"),
		noType("i[0][z]", "i[0]"),

		wellTyped("p.x", "int"),
		wellTyped("p.s", "str"),
		wellTyped("p.l", "[P]"),
		wellTyped("q.b", "bool"),
		wellTyped("p().q", "Q"),
		noName("p.b", "p.b"),
		noName("p.p", "p.p"),
		noName("q.x", "q.x"),
		noName("p.P", "p.P"),
		noType("lp.x", "lp.x"),
		noType("i.x", "i.x"),
		noType("s.x", "s.x"),
		noType("none().x", "none().x"),
		noType("lp.z", "lp.z"),
		noName("z.z", "z"),
		noType("i.x.z", "i.x"),
		noName("p.z.y", "p.z"),

		wellTyped("[1]", "[int]"),
		wellTyped("[1, i, li[0]]", "[int]"),
		wellTyped("[li, [1]]", "[[int]]"),
		wellTyped("[ll, [li]]", "[[[int]]]"),
		wellTyped("[p, p()]", "[P]"),
		noType("[1, true]", "[1, true]"),
		noType("[1, 2, s]", "[1, 2, s]"),
		noType("[s, 1, 1]", "[s, 1, 1]"),
		noType("[1, [1]]", "[1, [1]]"),
		noType("[none()]", "[none()]"),
		noType("[none(), none()]", "[none(), none()]"),
		noType("[1, none()]", "[1, none()]"),
		noName("[1, true, z]", "z"),
		noName("[none(), z, y]", "z"),
		noType("[p, q]", "[p, q]"),
	})
}

// P5.2: new, with too few, too many and wrong kids.
func TestOfNew(t *testing.T) {
	testExprs(t, []asked{
		wellTyped("new Q(true)", "Q"),
		wellTyped(`new P(1, "a", [p], new Q(b))`, "P"),
		wellTyped(`new P(1, "a", [p], new Q(b)).q.b`, "bool"),
		noName("new Z()", "new Z()"),
		noName("new Z(z)", "new Z(z)"),
		noName("new int(1)", "new int(1)"),
		noName("new f(1)", "new f(1)"),
		noName("new none()", "new none()"),
		noType("new Q()", "new Q()"),
		noType("new Q(true, true)", "new Q(true, true)"),
		noType("new Q(z, z)", "new Q(z, z)"),
		noType("new P(z)", "new P(z)"),
		noType("new Q(1)", "new Q(1)"),
		noType("new Q(none())", "new Q(none())"),
		noName("new Q(z)", "z"),
		noType("new Q(-true)", "-true"),
		noType("new P(1, 2, z, z)", "new P(1, 2, z, z)"),
		noName("new P(1, z, 3, 4)", "z"),
		noName("new P(z, 2, 3, 4)", "z"),
		noType("new P(none(), z, z, z)", "new P(none(), z, z, z)"),
		noType("new P(1, s, p, q)", "new P(1, s, p, q)"),
		noType("new P(1, s, lp, p)", "new P(1, s, lp, p)"),
		noType("new P(1, s, li, q)", "new P(1, s, li, q)"),
	})
}

// P5.2: calls of the program's functions, with too few, too many and wrong kids.
func TestOfCalls(t *testing.T) {
	testExprs(t, []asked{
		wellTyped("none()", ""),
		wellTyped("noneOf(1)", ""),
		wellTyped("main()", ""),
		wellTyped("p()", "P"),
		wellTyped("f(1, s, lp)", "[[bool]]"),
		wellTyped("f(f, s, p.l)", "[[bool]]"),
		noName("z()", "z()"),
		noName("z(y)", "z(y)"),
		noName("P()", "P()"),
		noName("int(1)", "int(1)"),
		noName("i()", "i()"),
		noType("none(1)", "none(1)"),
		noType("none(z)", "none(z)"),
		noType("none(none())", "none(none())"),
		noType("noneOf()", "noneOf()"),
		noType("noneOf(none())", "noneOf(none())"),
		noType("noneOf(true)", "noneOf(true)"),
		noName("noneOf(z)", "z"),
		noType("f()", "f()"),
		noType("f(z, z)", "f(z, z)"),
		noType("f(1, s)", "f(1, s)"),
		noType("f(1, s, lp, 1)", "f(1, s, lp, 1)"),
		noType("f(s, z, z)", "f(s, z, z)"),
		noName("f(z, 1, 1)", "z"),
		noType("f(1, 1, z)", "f(1, 1, z)"),
		noName("f(1, z, 1)", "z"),
		noType("f(1, s, p)", "f(1, s, p)"),
		noType("f(1, s, [q])", "f(1, s, [q])"),
		noType("f(1, s + 1, p)", "s + 1"),
	})
}

// P5.2: calls of the functions that are built in, with too few, too many and wrong kids.
func TestOfBuiltins(t *testing.T) {
	testExprs(t, []asked{
		wellTyped("len(s)", "int"),
		wellTyped("len(li)", "int"),
		wellTyped("len(ll)", "int"),
		wellTyped("len(lp)", "int"),
		noType("len(i)", "len(i)"),
		noType("len(b)", "len(b)"),
		noType("len(p)", "len(p)"),
		noType("len(none())", "len(none())"),
		noType("len()", "len()"),
		noType("len(s, s)", "len(s, s)"),
		noType("len(z, z)", "len(z, z)"),
		noName("len(z)", "z"),

		wellTyped("str(i)", "str"),
		wellTyped("str(b)", "str"),
		wellTyped("str(s)", "str"),
		noType("str(li)", "str(li)"),
		noType("str(p)", "str(p)"),
		noType("str(none())", "str(none())"),
		noType("str()", "str()"),
		noType("str(1, 1)", "str(1, 1)"),
		noType("str(z, z)", "str(z, z)"),
		noName("str(z)", "z"),

		wellTyped("array(1, 2)", "[int]"),
		wellTyped("array(i, s)", "[str]"),
		wellTyped("array(1, array(2, p))", "[[P]]"),
		wellTyped("array(len(s), ll)", "[[[int]]]"),
		noType("array()", "array()"),
		noType("array(1)", "array(1)"),
		noType("array(z)", "array(z)"),
		noType("array(1, 2, 3)", "array(1, 2, 3)"),
		noType("array(z, z, z)", "array(z, z, z)"),
		noType("array(s, 1)", "array(s, 1)"),
		noType("array(s, z)", "array(s, z)"),
		noType("array(none(), z)", "array(none(), z)"),
		noType("array(1, none())", "array(1, none())"),
		noName("array(1, z)", "z"),
		noName("array(y, z)", "y"),

		wellTyped("input()", "int"),
		noType("input(1)", "input(1)"),
		noType("input(z)", "input(z)"),

		wellTyped("print(1)", ""),
		wellTyped("print(i, b, s, p, q, li, lp, ll, 1, 2, 3, 4, 5, 6, 7, 8, 9, 10)", ""),
		noType("print()", "print()"),
		noType("print(none())", "print(none())"),
		noType("print(1, none(), z)", "print(1, none(), z)"),
		noType("print(print(1))", "print(print(1))"),
		noName("print(1, z, none())", "z"),
		noName("print(z)", "z"),
	})
	for s, want := range map[string]bool{"len": true, "str": true, "array": true, "input": true, "print": true,
		"int": false, "bool": false, "": false, "main": false, "Len": false, "len ": false, "le": false, "printf": false, "lenstr": false, "let": false, "str\x00": false} {
		if Builtin(s) != want {
			t.Errorf("Builtin(%q) is %v", s, !want)
		}
	}
}

// P5.2: what syntax.PrintExpr refuses with ErrArg is refused with that, at 0, ahead of all else; what it refuses with ErrBig is not.
func TestOfWhatMayNotBeTold(t *testing.T) {
	p := parse(t, world)
	cyclic := []api.Expr{{Kind: api.EUnary, S: "-"}}
	cyclic[0].Kids = cyclic
	deep := api.Expr{Kind: api.EInt}
	for range api.MaxDepth - 1 {
		deep = api.Expr{Kind: api.EArray, Kids: []api.Expr{deep}}
	}
	for i, e := range []api.Expr{
		{}, {Kind: 12}, {Kind: -1}, {Kind: api.EInt, N: -1, Line: 3}, {Kind: api.EBool, N: 2}, {Kind: api.EName}, {Kind: api.EName, S: "let"},
		{Kind: api.EName, S: "i", N: 1}, {Kind: api.EStr, S: "\x00"}, {Kind: api.EArray}, {Kind: api.EUnary, S: "-"},
		{Kind: api.EIndex, Kids: []api.Expr{{Kind: api.EInt}}}, {Kind: api.EBinary, S: "=", Kids: []api.Expr{{Kind: api.EInt}, {Kind: api.EInt}}},
		{Kind: api.ECall, S: "", Kids: nil}, {Kind: api.ENew, S: "1"}, {Kind: api.EField, Kids: []api.Expr{{Kind: api.EName, S: "p"}}},
		{Kind: api.EArray, Kids: []api.Expr{{Kind: api.EName, S: "z"}, {}}},
		cyclic[0], {Kind: api.EArray, Kids: []api.Expr{deep}},
	} {
		if s, line, err := Of(p, worldVars, e); s != "" || line != 0 || err != api.ErrArg {
			t.Errorf("%d: %q, error %d at %d", i, s, err, line)
		}
	}
	if s, line, err := Of(p, nil, deep); s != strings.Repeat("[", 23)+"int"+strings.Repeat("]", 23) || line != 0 || err != api.OK {
		t.Errorf("deep: %q, error %d at %d", s, err, line)
	}
	long := api.Expr{Kind: api.ECall, S: "print"}
	for range 1000 {
		long.Kids = append(long.Kids, api.Expr{Kind: api.EInt, N: 1000, Line: 1})
	}
	if _, err := syntax.PrintExpr(long); err != api.ErrBig {
		t.Fatal("it is not long enough")
	}
	if s, line, err := Of(p, nil, long); s != "" || line != 0 || err != api.OK {
		t.Errorf("long: %q, error %d at %d", s, err, line)
	}
	long.Kids = append(long.Kids, api.Expr{Kind: api.EName, S: "z", Line: 77})
	if s, line, err := Of(p, nil, long); s != "" || line != 77 || err != api.ErrName {
		t.Errorf("long: %q, error %d at %d", s, err, line)
	}
}

// P5.2: records and functions are taken as they are, of several of one name the first, and of variables the last.
func TestOfTakesAsTheyAre(t *testing.T) {
	p := api.Program{
		Records: []api.Record{
			{Name: "P", Fields: []api.Param{param("x", "int"), param("x", "str"), param("y", "Nothing"), param("none", "")}},
			{Name: "P", Fields: []api.Param{param("z", "bool")}},
			{Name: "Empty"},
			{Name: "", Fields: []api.Param{param("x", "int")}},
		},
		Funcs: []api.Func{
			{Name: "f", Params: []api.Param{param("a", "int"), param("a", "str")}, Result: "Nothing"},
			{Name: "f", Result: "int"},
			{Name: "g", Params: []api.Param{param("a", "Nothing")}, Result: "[Nothing]"},
			{Name: "none", Body: []api.Stmt{{}}},
			{Name: "odd", Params: []api.Param{param("a", "")}, Result: "int"},
			{Name: "print", Params: []api.Param{param("a", "int")}, Result: "bool"},
		},
	}
	vars := []api.Param{param("v", "int"), param("w", "str"), param("v", "P"), param("v", "bool"), param("p", "P"), param("w", "[Nothing]"), param("e", "Empty"), param("odd", ""), param("half", "[int"), param("no", "[]")}
	for _, a := range []asked{
		wellTyped("v", "bool"),
		wellTyped("!v", "bool"),
		wellTyped("w", "[Nothing]"),
		wellTyped("w[0]", "Nothing"),
		wellTyped("len(w)", "int"),
		wellTyped("p.x", "int"),
		wellTyped("p.y", "Nothing"),
		wellTyped("p.none", ""),
		noType("[p.none]", "[p.none]"),
		noType("p.none.x", "p.none.x"),
		noName("p.z", "p.z"),
		noType("p.y.z", "p.y.z"),
		noName("e.x", "e.x"),
		wellTyped("new Empty()", "Empty"),
		noType("new P(true)", "new P(true)"),
		noType(`new P(1, "a", p.y, p.none)`, `new P(1, "a", p.y, p.none)`),
		wellTyped(`f(1, "a")`, "Nothing"),
		noType("f()", "f()"),
		wellTyped(`g(f(1, "a"))`, "[Nothing]"),
		wellTyped(`g(p.y)[0]`, "Nothing"),
		wellTyped(`[p.y, f(1, "a")]`, "[Nothing]"),
		noType("none().x", "none().x"),
		noType("odd(none())", "odd(none())"),
		noType("odd(1)", "odd(1)"),
		wellTyped("odd", ""),
		noType("[odd]", "[odd]"),
		noType("half[0]", "half[0]"),
		noType("len(half)", "len(half)"),
		noType("no[0]", "no[0]"),
		wellTyped("print(1)", "bool"),
		noType("print(1, 2)", "print(1, 2)"),
		wellTyped("str(1)", "str"),
	} {
		a.test(t, p, vars)
	}
	asked{"len", "int", api.OK, ""}.test(t, api.Program{}, []api.Param{param("len", "int")})
	noName("x", "x").test(t, api.Program{}, nil)
	noName("f()", "f()").test(t, api.Program{}, []api.Param{param("f", "int")})
	wellTyped("len([1])", "int").test(t, api.Program{}, nil)
}

// P5.2: a row of statements ends, if its last one is a return, or an if with an else both of whose rows end.
func TestEnds(t *testing.T) {
	for s, want := range map[string]bool{
		"":                                     false,
		"return;":                              true,
		"return 1;":                            true,
		"return zz;":                           true,
		"f(); return;":                         true,
		"return; f();":                         false,
		"return; let x = 1;":                   false,
		"let x = 1;":                           false,
		"x = 1;":                               false,
		"if true { return; }":                  false,
		"while true { }":                       false,
		"while true { return; }":               false,
		"if true { return; } else { return; }": true,
		"if true { return; } else { }":         false,
		"if true { } else { return; }":         false,
		"if true { } else { }":                 false,
		"if true { return; } else { return; f(); }":                                                      false,
		"if true { return; f(); } else { return; }":                                                      false,
		"if true { return; } else { f(); return; }":                                                      true,
		"if true { return; } else { return; } f();":                                                      false,
		"if true { return; } else { return; } return;":                                                   true,
		"if true { } return;":                                                                            true,
		"if true { if true { return; } else { return; } } else { return; }":                              true,
		"if true { if true { return; } else { return; } } else { if true { return; } }":                  false,
		"if true { return; } else { if true { return; } else { if true { return; } else { return; } } }": true,
		"if true { return; } else { if true { return; } else { while true { return; } } }":               false,
	} {
		l := parse(t, "fn f() { "+s+" }").Funcs[0].Body
		if Ends(l) != want {
			t.Errorf("%s: %v", s, !want)
		}
	}
	if Ends(nil) || Ends([]api.Stmt{}) || Ends([]api.Stmt{{}}) || Ends([]api.Stmt{{Kind: -1}}) || Ends([]api.Stmt{{Kind: 8}}) {
		t.Error("what is nothing ends")
	}
	back := []api.Stmt{{Kind: api.SReturn}}
	if Ends([]api.Stmt{{Kind: api.SIf, Body: back, Else: back}}) || Ends([]api.Stmt{{Kind: api.SWhile, Body: back, Else: back}}) {
		t.Error("an if without an else ends")
	}
	if Ends([]api.Stmt{{Kind: api.SReturn}, {}}[:1:1]) != true || Ends([]api.Stmt{{}, {Kind: api.SReturn}}[:1]) {
		t.Error("what stands behind the end is looked at")
	}
}

// P5.2: Ends tells of many rows what the words say that are gone through another way.
func TestEndsOfMany(t *testing.T) {
	met := map[bool]int{}
	for seed := range uint64(3000) {
		m := newMaker(seed)
		var row func(depth int) []api.Stmt
		row = func(depth int) []api.Stmt {
			var l []api.Stmt
			for range m.IntN(2) {
				l = append(l, api.Stmt{Kind: api.StmtKind(m.IntN(9))})
			}
			if depth > 0 && m.IntN(2) == 0 {
				return append(l, api.Stmt{Kind: api.SElse, Body: row(depth - 1), Else: row(depth - 1)})
			}
			if m.IntN(8) > 0 {
				l = append(l, api.Stmt{Kind: api.SReturn})
			}
			return l
		}
		l := row(4)
		want := ending(l)
		if Ends(l) != want {
			t.Fatalf("seed %d: %v: %v", seed, l, !want)
		}
		met[want]++
	}
	if met[true] < 500 || met[false] < 500 {
		t.Error(met)
	}
}

// Every call ends: also of rows that stand within themselves, that are shared by many, or that are deeper than a program's.
func TestEndsOfOddRows(t *testing.T) {
	back := []api.Stmt{{Kind: api.SReturn}}
	l := []api.Stmt{{Kind: api.SElse}}
	l[0].Body, l[0].Else = l, l
	if Ends(l) {
		t.Error("what stands within itself ends")
	}
	l[0].Body = back
	if Ends(l) {
		t.Error("what stands within itself ends")
	}
	l[0].Body, l[0].Else = []api.Stmt{{Kind: api.SElse, Body: back, Else: l}}, back
	if Ends(l) {
		t.Error("what stands within itself ends")
	}
	shared := back
	for range 200 {
		shared = []api.Stmt{{Kind: api.SElse, Body: shared, Else: shared}}
	}
	if !Ends(shared) {
		t.Error("a row that many share does not end")
	}
	shared = []api.Stmt{{Kind: api.SElse, Body: shared, Else: []api.Stmt{{Kind: api.SElse, Body: shared}}}}
	if Ends(shared) {
		t.Error("a row that many share ends")
	}
	deep := back
	for range 1000000 {
		deep = []api.Stmt{{Kind: api.SElse, Body: back, Else: deep}}
	}
	if !Ends(deep) {
		t.Error("a deep row does not end")
	}
}

// P5.3: each kid of a well-typed expression is well-typed; with a kid in the place of which another one of its type stands it has the same type.
func TestOfKids(t *testing.T) {
	for seed := range uint64(1500) {
		m := newMaker(seed)
		m.vars = []api.Param{param("a", "int"), param("b", "P"), param("c", "[P]"), param("d", "[[int]]"), param("e", "Q")}
		e := m.expr(pick(m.Rand, someTypes), 4)
		if m.IntN(4) == 0 {
			e = m.callAlone()
		}
		whole, line, err := Of(m.p, m.vars, e)
		if line != 0 || err != api.OK {
			t.Fatalf("seed %d: error %d at %d", seed, err, line)
		}
		kidsAreWellTyped(t, m, e)
		if len(e.Kids) == 0 {
			continue
		}
		i := m.IntN(len(e.Kids))
		kid, _, _ := Of(m.p, m.vars, e.Kids[i])
		other := e
		other.Kids = slices.Clone(e.Kids)
		other.Kids[i] = m.expr(kid, 3)
		if got, line, err := Of(m.p, m.vars, other); got != whole || line != 0 || err != api.OK {
			t.Fatalf("seed %d: %q, error %d at %d, not %q", seed, got, err, line, whole)
		}
	}
}

func kidsAreWellTyped(t *testing.T, m *maker, e api.Expr) {
	t.Helper()
	for _, k := range e.Kids {
		if s, line, err := Of(m.p, m.vars, k); s == "" || line != 0 || err != api.OK {
			text, _ := syntax.PrintExpr(k)
			t.Fatalf("%s: %q, error %d at %d", text, s, err, line)
		}
		kidsAreWellTyped(t, m, k)
	}
}

// P5.4: where all lines of an expression are so many further, so is what Of tells.
func TestOfLinesFurther(t *testing.T) {
	p := parse(t, world)
	for _, s := range []string{"z", "1 + z", "1 + true", "-true", "li[s]", "p.z", "i.z", "[1, s]", "new Z()", "new Q(1)", "f(1)", "zz()", "len(1)", "[none()]", "print(1,\n\n2 +\nz)"} {
		e := expr(t, "\n"+s)
		_, line, err := Of(p, worldVars, e)
		if line < 2 {
			t.Errorf("%s: error %d at %d", s, err, line)
		}
		for _, by := range []int{1, 7, 1000000, -3} {
			got, more, bad := Of(p, worldVars, relined{func(n int) int { return n + by }}.expr(e))
			if got != "" || more != line+by || bad != err {
				t.Errorf("%s: error %d at %d; %d further it is %d at %d", s, err, line, by, bad, more)
			}
		}
	}
	e := expr(t, "\n\n1 +\n2")
	if s, line, err := Of(p, nil, e); s != "int" || line != 0 || err != api.OK {
		t.Errorf("%q, error %d at %d", s, err, line)
	}
}
