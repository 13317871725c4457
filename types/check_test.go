package types

import (
	"reflect"
	"strconv"
	"strings"
	"testing"

	"hindcast/api"
	"hindcast/syntax"
)

// ask is a program's text, the error that Check tells, and the part of the program in whose line it tells it (empty: 0).
type ask struct {
	source string
	err    api.Errno
	told   string
}

func (a ask) test(t *testing.T) {
	t.Helper()
	a.testTree(t, parse(t, a.source))
}

// testTree gives each part of the program a line of its own, so that the line tells which one is meant.
func (a ask) testTree(t *testing.T, p api.Program) {
	t.Helper()
	p = scattered(p)
	line, err := checkCopy(t, p)
	told := ""
	if line != 0 {
		told = toldAt(p, line)
	}
	if err != a.err || told != a.told || line != 0 && told == "" {
		t.Errorf("%s: error %d at %q (%d), not %d at %q", a.source, err, told, line, a.err, a.told)
	}
}

func testAll(t *testing.T, l []ask) {
	t.Helper()
	for _, a := range l {
		a.test(t)
	}
}

// row tells a text so often, with # as the number from 0 on, and something between.
func row(n int, s, between string) string {
	var l []string
	for i := range n {
		l = append(l, strings.ReplaceAll(s, "#", strconv.Itoa(i)))
	}
	return strings.Join(l, between)
}

// P5.1: what the chapter's examples say.
func TestCheckOfExamples(t *testing.T) {
	testAll(t, []ask{
		{`fn main() { let x = 1; x = x + len("ab"); }`, api.OK, ""},
		{`fn main() { let x = "a" + 1; }`, api.ErrType, `"a" + 1`},
		{`fn f(): int { if true { return 1; } } fn main() { }`, api.ErrType, "fn f"},
		{`fn main() { if true { let x = 1; } x = 2; }`, api.ErrName, "x"},
	})
	for s, want := range map[string]int{
		"fn main() { let x =\n\"a\" + 1; }":                                    2,
		"\n\nfn f(): int {\nif true { return 1; } }\nfn main() { }":            3,
		"fn main() {\nif true {\nlet x = 1; }\nx = 2; }":                       4,
		"fn main() {\nlet a = 1;\nlet b =\nprint(1); }":                        3,
		"record P {\nx: int,\ny: Nothing }\nfn main() { }":                     1,
		"fn main() { }\nfn f(\na: int,\nb: int\n, a: int) { }":                 2,
		"fn main() {\nwhile\n1 + 1\n== 2 {\nif\n1 { } } }":                     5,
		"fn main() { print(1,\n-\ntrue); }":                                    2,
		"fn main() { let l = [1];\nprint(l\n[\n0] + l[\n\"a\"]); }":            4,
		"fn main() { }\n\nfn f(): int { return\n1 +\n(2 + 3) * \n\"a\"; }":     5,
		"fn main() { }\n\nfn f(): int { return\n1 +\n(\n2 + 3) * \n\"a\"; }":   6,
		"fn f(): int { return 1; } fn main() { }\n\n\nfn g(): int { f();\n\n}": 4,
	} {
		if line, err := Check(parse(t, s)); line != want || err == api.OK {
			t.Errorf("%q: error %d at line %d, not %d", s, err, line, want)
		}
	}
}

// P5.1: programs in which nothing is wrong.
func TestCheckOfWellTyped(t *testing.T) {
	for _, s := range []string{
		`fn main() { }`,
		`fn main() { return; }`,
		`fn main() { main(); main(); }`,
		`record P { q: Q } record Q { p: [P], q: Q } fn f(q: Q): P { return q.q.p[0]; } fn main() { }`,
		`fn f(a: int): int { while a > 0 { a = a - 1; let b = a; if b == 3 { return b; } } return a; } fn main() { print(f(3)); }`,
		`fn f(): [[int]] { return [[1], array(2, 3), [len([1])]]; } fn main() { f()[0] = [1]; f()[0][1] = f()[1][0]; f(); }`,
		`record P { a: int, b: [str] } fn main() { let p = new P(1, ["a"]); p.a = p.a + 1; p.b[0] = p.b[0] + "b"; [p][0].a = 2; new P(1, ["a"]).b = array(2, ""); }`,
		`fn main() { let len = 1; let int = len; let P = int; let main = P; main(); print(main + len); }`,
		`fn f(str: str, array: [int]): str { return str(array[0]) + str(str); } fn main() { print(f("a", [1])); }`,
		`fn main() { if true { let x = 1; x = 2; } else { let y = "a"; y = "b"; } while false { let z = true; z = !z; } }`,
		`fn f(x: int) { let y = x; } fn main() { let y = "a"; let x = y; }`,
		`fn main() { array(1, 1); input(); len("a"); str(1); print(1); }`,
		`fn f(): int { return f(); } fn main() { f(); let x = f(); }`,
		`fn f(): int { if true { return 1; } else { if false { return 2; } else { return 3; } } } fn main() { }`,
		`fn f(): int { return 1; } fn main() { if true { return; } return; f(); }`,
		`fn f(): int { return 1; print(1); return 2; } fn main() { }`,
	} {
		ask{s, api.OK, ""}.test(t)
	}
}

// P5.1: what syntax.Print refuses with ErrArg is refused with that, at 0; what it refuses with ErrBig is not.
func TestCheckOfWhatMayNotBeTold(t *testing.T) {
	deep := api.Expr{Kind: api.EInt}
	for range api.MaxDepth - 1 {
		deep = api.Expr{Kind: api.EUnary, S: "-", Kids: []api.Expr{deep}}
	}
	within := []api.Stmt{{Kind: api.SElse, E: []api.Expr{{Kind: api.EBool}}}}
	within[0].Body, within[0].Else = within, within
	main := func(l ...api.Stmt) api.Program { return api.Program{Funcs: []api.Func{{Name: "main", Body: l}}} }
	for i, p := range []api.Program{
		{Funcs: []api.Func{{Name: ""}}},
		{Funcs: []api.Func{{Name: "main"}, {Name: "while", Line: 3}}},
		{Records: []api.Record{{Name: "P", Line: 2}}, Funcs: []api.Func{{Name: "main"}}},
		{Records: []api.Record{{Name: "P", Fields: []api.Param{param("a", "")}}}, Funcs: []api.Func{{Name: "main"}}},
		{Records: []api.Record{{Name: "P", Fields: []api.Param{param("a", "[int")}}}, Funcs: []api.Func{{Name: "main"}}},
		{Funcs: []api.Func{{Name: "main", Params: []api.Param{param("", "int")}}}},
		{Funcs: []api.Func{{Name: "main", Result: "[]"}}},
		{Funcs: []api.Func{{Name: "f", Params: []api.Param{param("a", "Nothing")}}, {Name: "g", Result: "]"}}},
		main(api.Stmt{}),
		main(api.Stmt{Kind: api.SLet, S: "x", Line: 4}),
		main(api.Stmt{Kind: api.SDo, E: []api.Expr{{Kind: api.EInt, N: -1}}}),
		main(api.Stmt{Kind: api.SDo, E: []api.Expr{{Kind: api.EInt}, {Kind: api.EInt}}}),
		main(api.Stmt{Kind: api.SSet, E: []api.Expr{{Kind: api.EInt}, {Kind: api.EInt}}}),
		main(api.Stmt{Kind: api.SDo, E: []api.Expr{{Kind: api.EBinary, S: "=", Kids: []api.Expr{{Kind: api.EInt}, {Kind: api.EInt}}}}}),
		main(api.Stmt{Kind: api.SLet, S: "x", E: []api.Expr{{Kind: api.EUnary, S: "-", Kids: []api.Expr{deep}}}}),
		main(api.Stmt{Kind: api.SLet, S: "x", E: []api.Expr{deep}}),
		main(within...),
		main(api.Stmt{Kind: api.SDo, E: []api.Expr{{Kind: api.EName, S: "zz", Line: 7}}}, api.Stmt{Kind: 8}),
	} {
		if line, err := Check(p); line != 0 || err != api.ErrArg {
			t.Errorf("%d: error %d at %d", i, err, line)
		}
	}
	deep = deep.Kids[0]
	ask{"deep", api.OK, ""}.testTree(t, main(api.Stmt{Kind: api.SLet, S: "x", E: []api.Expr{deep}}))

	long := "fn main() { " + strings.Repeat("print(12345678);", 250)
	p := parse(t, long+"}")
	if _, err := syntax.Print(p); err != api.ErrBig {
		t.Fatal("it is not long enough")
	}
	ask{"long", api.OK, ""}.testTree(t, p)
	p.Funcs[0].Body = append(p.Funcs[0].Body, api.Stmt{Kind: api.SDo, E: []api.Expr{{Kind: api.EName, S: "zz"}}})
	ask{"long", api.ErrType, "zz;"}.testTree(t, p)
	p.Funcs[0].Body[0].E[0].N = 1
	if line, err := Check(p); line != 0 || err != api.ErrArg {
		t.Errorf("long, and not to be told: error %d at %d", err, line)
	}
}

// P5.1, part 1: records, with what is asked first.
func TestCheckOfRecords(t *testing.T) {
	main := " fn main() { }"
	records := row(16, "record R# { x: int }", " ")
	testAll(t, []ask{
		{records + main, api.OK, ""},
		{records + "record S { x: int }" + main, api.ErrBig, "record S"},
		{records + "record S { x: int } record T { x: int }" + main, api.ErrBig, "record S"},
		{records + "record R0 { x: int }" + main, api.ErrBig, "record R0"},
		{records + "record int { x: int, x: Nothing }" + main, api.ErrBig, "record int"},
		{row(15, "record R# { x: int }", " ") + "record bool { x: int } record S { x: int }" + main, api.ErrName, "record bool"},
		{row(16, "record R# { x: Nothing }", " ") + "record S { x: int }" + main, api.ErrBig, "record S"},

		{"record int { x: int }" + main, api.ErrName, "record int"},
		{"record bool { x: int }" + main, api.ErrName, "record bool"},
		{"record P { x: int } record str { x: int }" + main, api.ErrName, "record str"},
		{"record P { x: int } record Q { x: int } record P { y: int }" + main, api.ErrName, "record P"},
		{"record len { x: int } record main { x: len } record x { x: x }" + main, api.ErrName, "fn main"},
		{"record len { x: int } record print { len: len } fn main() { let x = new print(new len(1)); x.len.x = len(\"a\"); }", api.OK, ""},
		{"record str { " + row(9, "x: Nothing", ", ") + " }" + main, api.ErrName, "record str"},

		{"record P { " + row(8, "x#: int", ", ") + " }" + main, api.OK, ""},
		{"record P { " + row(9, "x#: int", ", ") + " }" + main, api.ErrBig, "record P"},
		{"record P { " + row(9, "x: Nothing", ", ") + " }" + main, api.ErrBig, "record P"},
		{"record P { " + row(9, "x#: int", ", ") + " } record int { x: int }" + main, api.ErrBig, "record P"},

		{"record P { x: int, x: int }" + main, api.ErrName, "record P"},
		{"record P { x: int, y: int, z: str, x: str }" + main, api.ErrName, "record P"},
		{"record P { x: Nothing, x: int }" + main, api.ErrName, "record P"},
		{"record P { x: int, x: int } record P { y: int }" + main, api.ErrName, "record P"},
		{"record P { x: int } record Q { x: int, P: P, Q: P }" + main, api.OK, ""},

		{"record P { x: Nothing }" + main, api.ErrType, "record P"},
		{"record P { x: int, y: [[Nothing]] }" + main, api.ErrType, "record P"},
		{"record P { x: main }" + main, api.ErrType, "record P"},
		{"record P { x: len }" + main, api.ErrType, "record P"},
		{"record P { x: x }" + main, api.ErrType, "record P"},
		{"record P { x: Q } record Q { y: [P] }" + main, api.OK, ""},
		{"record P { x: P, y: [[[[Q]]]] } record Q { y: [bool] }" + main, api.OK, ""},
		{"record P { x: Nothing } record Q { y: int, y: int }" + main, api.ErrName, "record Q"},
		{"record P { x: Nothing } record Q { y: Nothing }" + main, api.ErrType, "record P"},
		{"record P { x: int } record Q { y: Nothing }", api.ErrType, "record Q"},
		{"record P { x: Nothing } fn f() { } fn f() { }", api.ErrType, "record P"},
	})
}

// P5.1, parts 2 and 3: functions and main, with what is asked first.
func TestCheckOfFunctions(t *testing.T) {
	main := " fn main() { }"
	funcs := row(31, "fn f#() { }", " ")
	testAll(t, []ask{
		{funcs + main, api.OK, ""},
		{funcs + main + "fn g() { }", api.ErrBig, "fn g"},
		{funcs + main + "fn len(a: Nothing, a: int) { } fn g() { }", api.ErrBig, "fn len"},
		{funcs + "fn g() { }" + main, api.ErrBig, "fn main"},
		{row(30, "fn f#() { }", " ") + main + "fn print() { } fn g() { }", api.ErrName, "fn print"},
		{row(33, "fn f#() { zz(); }", " "), api.ErrBig, "fn f32"},

		{main + "fn len() { }", api.ErrName, "fn len"},
		{main + "fn str() { }", api.ErrName, "fn str"},
		{main + "fn array() { }", api.ErrName, "fn array"},
		{main + "fn input() { }", api.ErrName, "fn input"},
		{main + "fn print() { }", api.ErrName, "fn print"},
		{main + "fn int() { }", api.ErrName, "fn int"},
		{main + "fn bool() { }", api.ErrName, "fn bool"},
		{"fn P() { } record P { x: int }" + main, api.ErrName, "fn P"},
		{"fn f() { } fn g() { } fn f(): int { }" + main, api.ErrName, "fn f"},
		{"fn main() { } fn main(a: int) { }", api.ErrName, "fn main"},
		{"fn x() { let x = 1; x(); }" + main, api.OK, ""},
		{"fn len(" + row(9, "a: Nothing", ", ") + ") { }" + main, api.ErrName, "fn len"},

		{"fn f(" + row(8, "a#: int", ", ") + ") { }" + main, api.OK, ""},
		{"fn f(" + row(9, "a#: int", ", ") + ") { }" + main, api.ErrBig, "fn f"},
		{"fn f(" + row(9, "a: Nothing", ", ") + ") { } fn len() { }", api.ErrBig, "fn f"},

		{"fn f(a: int, a: int) { }" + main, api.ErrName, "fn f"},
		{"fn f(a: Nothing, b: int, a: str): Nothing { }" + main, api.ErrName, "fn f"},
		{"fn f(a: Nothing) { } fn g(a: int, a: int) { }" + main, api.ErrType, "fn f"},
		{"fn f(f: int, g: int) { } fn g(f: int, main: str) { }" + main, api.OK, ""},

		{"fn f(a: int, b: Nothing) { }" + main, api.ErrType, "fn f"},
		{"fn f(a: [[f]]) { }" + main, api.ErrType, "fn f"},
		{"fn f(): Nothing { }" + main, api.ErrType, "fn f"},
		{"fn f(): [a] { }" + main, api.ErrType, "fn f"},
		{"fn f(a: print): int { }" + main, api.ErrType, "fn f"},
		{"fn f(a: P, b: [[P]], c: [bool]): [P] { return b[0]; } record P { x: int }" + main, api.OK, ""},
		{"fn f(): int { return zz; } fn g(): Nothing { }" + main, api.ErrType, "fn g"},

		{"", api.ErrName, ""},
		{"record main { x: int }", api.ErrName, ""},
		{"fn f() { }", api.ErrName, ""},
		{"fn main(a: int) { }", api.ErrName, ""},
		{"fn main(): int { return 1; }", api.ErrName, ""},
		{"fn main(a: int): int { zz; }", api.ErrName, ""},
		{"fn f() { let x = zz; }", api.ErrName, ""},
		{"fn main(): Nothing { }", api.ErrType, "fn main"},
	})
	// A program of 16 records and 32 functions, all as great as they may be, has more bytes than a text, and is well-typed all the same.
	p := parse(t, "fn main() { }")
	for i := range 16 {
		p.Records = append(p.Records, parse(t, "record R"+strconv.Itoa(i)+" { "+row(8, "fieldNumber#: [[R0]]", ", ")+" }").Records...)
	}
	for i := range 31 {
		p.Funcs = append(p.Funcs, parse(t, "fn f"+strconv.Itoa(i)+"("+row(8, "p#: int", ", ")+"): int { "+row(24, "let v# = p0;", "")+" return v0; }").Funcs...)
	}
	ask{"great", api.OK, ""}.testTree(t, p)
}

// P5.1, part 4: statements, with what is asked first.
func TestCheckOfStatements(t *testing.T) {
	in := func(s string) string {
		return "record P { x: int, y: str } fn none() { } fn p(): P { return p(); } fn main() { " + s + " }"
	}
	lets := row(32, "let v# = #;", " ")
	for _, a := range []ask{
		{"let x = none();", api.ErrType, "let x = none();"},
		{"let x = print(1);", api.ErrType, "let x = print(1);"},
		{"let x = x;", api.ErrName, "x"},
		{"let x = 1; let x = none();", api.ErrType, "let x = none();"},
		{"let x = 1; let x = zz;", api.ErrName, "zz"},
		{"let x = 1; let x = 2;", api.ErrName, "let x = 2;"},
		{"let x = 1; let y = 1; let x = x;", api.ErrName, "let x = x;"},
		{"if true { let x = 1; } let x = 2;", api.ErrName, "let x = 2;"},
		{"if true { let x = 1; } else { let x = 2; }", api.ErrName, "let x = 2;"},
		{"while true { let x = 1; } if true { let x = 2; }", api.ErrName, "let x = 2;"},
		{"let x = 1; if true { let x = 2; }", api.ErrName, "let x = 2;"},
		{lets, api.OK, ""},
		{lets + "let w = 5;", api.ErrBig, "let w = 5;"},
		{lets + "if true { let w = 5; }", api.ErrBig, "let w = 5;"},
		{"if true { " + lets + " } let w = 5;", api.ErrBig, "let w = 5;"},
		{lets + "let v0 = 5;", api.ErrName, "let v0 = 5;"},
		{lets + "let v0 = none();", api.ErrType, "let v0 = none();"},
		{lets + "let w = none();", api.ErrType, "let w = none();"},
		{lets + "let w = zz;", api.ErrName, "zz"},

		{"if true { let x = 1; } x = 2;", api.ErrName, "x"},
		{"if true { let x = 1; } else { x = 2; }", api.ErrName, "x"},
		{"while true { let x = 1; } print(x);", api.ErrName, "x"},
		{"if true { if true { let x = 1; } print(x); }", api.ErrName, "x"},
		{"x = 1; let x = 1;", api.ErrName, "x"},
		{"while x { let x = true; }", api.ErrName, "x"},
		{"let x = 1; if true { x = 2; while true { x = 3; } } x = 4;", api.OK, ""},
		{"if true { let x = 1; while true { x = 2; if false { x = 3; } x = 4; } x = 5; }", api.OK, ""},
		{"if true { let x = 1; } let y = 2; if true { let z = 3; y = z; } y = 3;", api.OK, ""},

		{"let x = 1; x = none();", api.ErrType, "x = none();"},
		{"let x = 1; x = true;", api.ErrType, "x = true;"},
		{"let x = [1]; x = [[1]];", api.ErrType, "x = [[1]];"},
		{"let x = [1]; x[0] = x;", api.ErrType, "x[0] = x;"},
		{`let x = p(); x.y = 1;`, api.ErrType, "x.y = 1;"},
		{"yy = zz;", api.ErrName, "yy"},
		{"let x = 1; x = zz;", api.ErrName, "zz"},
		{"let x = 1; x[zz] = yy;", api.ErrName, "zz"},
		{"let x = 1; x[0] = yy;", api.ErrType, "x[0]"},
		{"let x = 1; x.y = yy;", api.ErrType, "x.y"},
		{"p().z = yy;", api.ErrName, "p().z"},
		{"none = 1;", api.ErrName, "none"},

		{"if 1 { zz; }", api.ErrType, "if 1"},
		{"if none() { zz; }", api.ErrType, "if none()"},
		{"if zz { yy; }", api.ErrName, "zz"},
		{`if "a" { yy; } else { zz; }`, api.ErrType, `if "a"`},
		{"while [true] { zz; }", api.ErrType, "while [true]"},
		{"while print(1) { zz; }", api.ErrType, "while print(1)"},
		{"while p() { zz; }", api.ErrType, "while p()"},
		{"while zz { yy; }", api.ErrName, "zz"},
		{"if true { yy(); } else { zz(); }", api.ErrName, "yy()"},
		{"if true { } else { zz(); }", api.ErrName, "zz()"},
		{"if true { yy(); } zz();", api.ErrName, "yy()"},
		{"while true { } zz();", api.ErrName, "zz()"},

		{"return 1;", api.ErrType, "return 1;"},
		{"return none();", api.ErrType, "return none();"},
		{"return zz;", api.ErrType, "return zz;"},
		{"return; zz;", api.ErrType, "zz;"},

		{"1;", api.ErrType, "1;"},
		{"zz;", api.ErrType, "zz;"},
		{"1 + zz;", api.ErrType, "1 + zz;"},
		{"-none();", api.ErrType, "-none();"},
		{"[none()];", api.ErrType, "[none()];"},
		{"new P(1, 2);", api.ErrType, "new P(1, 2);"},
		{"p().x;", api.ErrType, "p().x;"},
		{"[p()][0];", api.ErrType, "[p()][0];"},
		{"none();", api.OK, ""},
		{"p();", api.OK, ""},
		{"print(1, p(), true);", api.OK, ""},
		{"zz();", api.ErrName, "zz()"},
		{"none(1);", api.ErrType, "none(1)"},
		{"print(none());", api.ErrType, "print(none())"},

		{"let x = 1 + none();", api.ErrType, "1 + none()"},
		{"yy(); zz;", api.ErrName, "yy()"},
		{"zz; yy();", api.ErrType, "zz;"},
	} {
		a.source = in(a.source)
		a.test(t)
	}
	// Behind main there are functions, too, and their statements are asked last of all.
	ask{"fn main() { } fn f() { zz(); } fn g() { yy(); }", api.ErrName, "zz()"}.test(t)
	ask{"fn main() { zz(); } fn f() { yy(); }", api.ErrName, "zz()"}.test(t)
	ask{"fn f() { zz(); } fn main() { yy(); }", api.ErrName, "zz()"}.test(t)
}

// P5.1, part 4: functions with parameters and results, and whether their statements end.
func TestCheckOfResults(t *testing.T) {
	for _, a := range []ask{
		{"fn f(): int { }", api.ErrType, "fn f"},
		{"fn f(): int { return; }", api.ErrType, "return;"},
		{"fn f(): int { return true; }", api.ErrType, "return true;"},
		{"fn f(): int { return [1]; }", api.ErrType, "return [1];"},
		{"fn f(): [int] { return 1; }", api.ErrType, "return 1;"},
		{"fn f(): int { return none(); }", api.ErrType, "return none();"},
		{"fn f(): int { return zz; }", api.ErrName, "zz"},
		{"fn f(): int { return 1 + true; }", api.ErrType, "1 + true"},
		{"fn f(): int { return; return zz; }", api.ErrType, "return;"},
		{"fn f(): int { f(); }", api.ErrType, "fn f"},
		{"fn f(): int { return 1; f(); }", api.ErrType, "fn f"},
		{"fn f(): int { if true { return 1; } }", api.ErrType, "fn f"},
		{"fn f(): int { while true { return 1; } }", api.ErrType, "fn f"},
		{"fn f(): int { if true { return 1; } else { } }", api.ErrType, "fn f"},
		{"fn f(): int { if true { } else { return 1; } }", api.ErrType, "fn f"},
		{"fn f(): int { if true { return 1; } else { return 2; } f(); }", api.ErrType, "fn f"},
		{"fn f(): int { if true { return 1; } else { if true { return 2; } } }", api.ErrType, "fn f"},
		{"fn f(): int { if true { return 1; } else { if true { return 2; } else { return 3; } } }", api.OK, ""},
		{"fn f(): int { if true { if true { return 2; } else { return 3; } } else { return 1; } }", api.OK, ""},
		{"fn f(): int { if true { return true; } }", api.ErrType, "return true;"},
		{"fn f(): int { } fn g() { zz(); }", api.ErrType, "fn f"},
		{"fn f() { zz(); } fn g(): int { }", api.ErrName, "zz()"},
		{"fn f(a: int): int { return a; }", api.OK, ""},
		{"fn f(a: int) { let a = 1; }", api.ErrName, "let a = 1;"},
		{"fn f(a: int) { if true { let a = 1; } }", api.ErrName, "let a = 1;"},
		{"fn f(a: int) { let b = a; } fn g() { a = 1; }", api.ErrName, "a"},
		{"fn f(a: int) { } fn g() { let b = 1; } fn h() { let a = b; }", api.ErrName, "b"},
		{"fn f(a: int, b: str) { a = len(b); b = str(a); a = b; }", api.ErrType, "a = b;"},
		{"fn f(a: int, b: int) { " + row(30, "let v# = #;", " ") + " }", api.OK, ""},
		{"fn f(a: int, b: int) { " + row(30, "let v# = #;", " ") + " let w = 1; }", api.ErrBig, "let w = 1;"},
		{"fn f() { " + row(32, "let v# = #;", " ") + " } fn g() { " + row(32, "let v# = #;", " ") + " }", api.OK, ""},
		{"fn f(" + row(8, "a#: int", ", ") + ") { if true { " + row(24, "let v# = #;", " ") + " } else { let w = a; } }", api.ErrName, "a"},
		{"fn f(" + row(8, "a#: int", ", ") + ") { if true { " + row(24, "let v# = #;", " ") + " } else { let w = a1; } }", api.ErrBig, "let w = a1;"},
	} {
		a.source = "fn none() { } fn main() { } " + a.source
		a.test(t)
	}
}

// P5.4: where all lines are so many further, so is what is told; where no line is told, it is 0.
func TestLinesFurther(t *testing.T) {
	for seed := range uint64(600) {
		m := newMaker(seed)
		p := m.program()
		for range m.IntN(4) {
			spoil(m.Rand, &p)
		}
		p = scattered(p)
		line, err := Check(p)
		by := 1 + m.IntN(100000)
		want := line + by
		if line == 0 {
			want = 0
		}
		q := relined{func(n int) int { return n + by }}.program(p)
		if got, bad := Check(q); got != want || bad != err {
			t.Fatalf("seed %d: error %d at %d; %d further it is %d at %d", seed, err, line, by, bad, got)
		}
	}
	p := parse(t, "fn main() {\nlet x = y; }")
	for _, by := range []int{-2, -100, 1 << 40} {
		q := relined{func(n int) int { return n + by }}.program(p)
		if got, bad := Check(q); got != 2+by || bad != api.ErrName {
			t.Errorf("%d further: error %d at %d", by, bad, got)
		}
	}
	text := "record P { x: int }\nfn main() {\nlet x = 1;\n%\n}"
	for _, s := range []string{"x = y;", "let x = 2;", "if x { }", "new P(1);", "print(new P(\n\"a\"));", "print(\n1,\n-\"a\");"} {
		s = strings.Replace(text, "%", s, 1)
		line, err := Check(parse(t, s))
		if more, bad := Check(parse(t, "\n\n\n"+s)); more != line+3 || bad != err || err == api.OK {
			t.Errorf("%q: error %d at %d, and %d at %d", s, err, line, bad, more)
		}
	}
}

// P5.5: a program that is well-typed is so with a further function, of a new name, that is well-typed.
func TestFurtherFunction(t *testing.T) {
	for seed := range uint64(600) {
		m := newMaker(seed)
		p := m.program()
		other := newMaker(seed + 10000)
		other.f = api.Func{Name: "new" + strconv.Itoa(int(seed)), Params: []api.Param{param("a", pick(m.Rand, someTypes)), param("b", "Q")}, Result: pick(m.Rand, append(someTypes, ""))}
		other.p = api.Program{Records: p.Records, Funcs: append(p.Funcs[:len(p.Funcs):len(p.Funcs)], other.f)}
		other.vars, other.named = other.f.Params, 2
		other.f.Body = other.row(3, other.f.Result != "")
		at := m.IntN(len(p.Funcs) + 1)
		q := api.Program{Records: p.Records}
		q.Funcs = append(append(append(q.Funcs, p.Funcs[:at]...), other.f), p.Funcs[at:]...)
		if line, err := Check(q); line != 0 || err != api.OK {
			t.Fatalf("seed %d: error %d at %q", seed, err, toldAt(q, line))
		}
	}
	p := parse(t, row(31, "fn f#() { let x = #; }", " ")+"fn main() { f30(); }")
	ask{"32 functions", api.OK, ""}.testTree(t, p)
	p.Funcs = append(p.Funcs, api.Func{Name: "g"})
	ask{"33 functions", api.ErrBig, "fn g"}.testTree(t, p)
}

// Nothing is kept from call to call, and what is asked twice is answered alike.
func TestCheckAgain(t *testing.T) {
	good := parse(t, "record P { x: int } fn f(a: P): int { let y = a.x; return y; } fn main() { }")
	bad := parse(t, "fn main() { let a = new P(1); f(a); y = 1; }")
	before := relined{same}.program(good)
	for range 3 {
		if line, err := Check(good); line != 0 || err != api.OK {
			t.Errorf("error %d at %d", err, line)
		}
		if line, err := Check(bad); line != 1 || err != api.ErrName {
			t.Errorf("error %d at %d", err, line)
		}
	}
	if !reflect.DeepEqual(relined{same}.program(good), before) {
		t.Error("it is changed")
	}
}
