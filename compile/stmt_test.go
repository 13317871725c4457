package compile

import (
	"strconv"
	"testing"

	"hindcast/api"
)

func itoa(n int) string { return strconv.Itoa(n) }

// The chapter's example, but that x is there up to 6: that is the first instruction behind the row, by the chapter's words.
func TestExample(t *testing.T) {
	c := compiled(t, "fn main() { let x = 2; print(x); }")
	expect(t, "the code", listed(c, 0), "mark 1; int 2; store 0; mark 1; load 0; print 1; return 0")
	expect(t, "stack", c.Units[0].Stack, 1)
	expect(t, "slots", c.Units[0].Slots, 1)
	expect(t, "variables", varsOf(c.Units[0]), "x 0 3-6")
	c = compiled(t, "fn main() { while true { } }")
	expect(t, "the loop", listed(c, 0), "mark 1; bool 1; unless 4; jump 0; return 0")
	expect(t, "the loop's stack", c.Units[0].Stack, 1)
}

// P8.1, P8.4: the code of statements, each kind alone and within others, with a mark of its line.
func TestStatements(t *testing.T) {
	for _, c := range []struct{ what, row, want string }{
		{"nothing", "", "return 0"},
		{"let", "let x = a;", "mark 3; load 0; store 8; return 0"},
		{"lets", "let x = a;\n\nlet y = x; let z = y;", "mark 3; load 0; store 8; mark 5; load 8; store 9; mark 5; load 9; store 10; return 0"},
		{"set of a name", "b = a;", "mark 3; load 0; store 1; return 0"},
		{"set of itself", "b = b + 1;", "mark 3; load 1; int 1; add; store 1; return 0"},
		{"set of an index", "l[a] = b;", "mark 3; load 5; load 0; load 1; setindex; return 0"},
		{"set of an index of an index", "[l, l][a][b] = 1;", "mark 3; load 5; load 5; array 2; load 0; index; load 1; int 1; setindex; return 0"},
		{"set of a field", "p.x = a;", "mark 3; load 6; load 0; setfield 0; return 0"},
		{"set of a field of a field", "q.p.x = p.x;", "mark 3; load 7; field 0; load 6; field 1; setfield 1; return 0"},
		{"set of an index of a field", "q.l[0] = 1;", "mark 3; load 7; field 0; int 0; int 1; setindex; return 0"},
		{"set of a field of an index", "[p][0].x = 1;", "mark 3; load 6; array 1; int 0; index; int 1; setfield 0; return 0"},
		{"set of a field of what is told", "tell().x = 1;", "mark 3; call 5; int 1; setfield 0; return 0"},
		{"set in several lines", "l\n[a]\n=\nb;", "mark 3; load 5; load 0; load 1; setindex; return 0"},

		{"if", "if t { a = 1; }", "mark 3; load 2; unless 6; mark 3; int 1; store 0; 6 return 0"},
		{"if of lines", "if t {\na = 1;\nb = 2;\n}\na = 3;", "mark 3; load 2; unless 9; mark 4; int 1; store 0; mark 5; int 2; store 1; 9 mark 7; int 3; store 0; return 0"},
		{"if, empty", "if t { }", "mark 3; load 2; unless 3; 3 return 0"},
		{"else", "if t {\na = 1;\n} else {\nb = 2;\n}", "mark 3; load 2; unless 7; mark 4; int 1; store 0; jump 10; 7 mark 6; int 2; store 1; 10 return 0"},
		{"else, both empty", "if t { } else { }", "mark 3; load 2; unless 4; jump 4; 4 return 0"},
		{"else, the first empty", "if t { } else { a = 1; }", "mark 3; load 2; unless 4; jump 7; 4 mark 3; int 1; store 0; 7 return 0"},
		{"else, the second empty", "if t { a = 1; } else { }", "mark 3; load 2; unless 7; mark 3; int 1; store 0; jump 7; 7 return 0"},
		{"if in if", "if t { if u { a = 1; } b = 2; }", "mark 3; load 2; unless 12; mark 3; load 3; unless 9; mark 3; int 1; store 0; 9 mark 3; int 2; store 1; 12 return 0"},
		{"if as the last in if", "if t { if u { } }", "mark 3; load 2; unless 6; mark 3; load 3; unless 6; 6 return 0"},
		{"else in else", "if t { } else { if u { } else { a = 1; } }", "mark 3; load 2; unless 4; jump 11; 4 mark 3; load 3; unless 8; jump 11; 8 mark 3; int 1; store 0; 11 return 0"},
		{"else ahead of else", "if t { if u { a = 1; } else { } } else { }", "mark 3; load 2; unless 11; mark 3; load 3; unless 10; mark 3; int 1; store 0; jump 10; 10 jump 11; 11 return 0"},

		{"while", "while t {\na = 1;\n}", "mark 3; load 2; unless 7; mark 4; int 1; store 0; jump 0; 7 return 0"},
		{"while, behind something", "a = 1;\nwhile t { }\nb = 2;", "mark 3; int 1; store 0; 3 mark 4; load 2; unless 7; jump 3; 7 mark 5; int 2; store 1; return 0"},
		{"while, empty", "while t { }", "mark 3; load 2; unless 4; jump 0; 4 return 0"},
		{"while in while", "while t {\nwhile u { }\n}", "mark 3; load 2; unless 8; 3 mark 4; load 3; unless 7; jump 3; 7 jump 0; 8 return 0"},
		{"while in while, with more", "while t { a = 1; while u { b = 2; } a = 3; }", "mark 3; load 2; unless 17; mark 3; int 1; store 0; 6 mark 3; load 3; unless 13; mark 3; int 2; store 1; jump 6; 13 mark 3; int 3; store 0; jump 0; 17 return 0"},
		{"while in if in while", "while t { if u { while t { } } else { } }", "mark 3; load 2; unless 12; mark 3; load 3; unless 11; 6 mark 3; load 2; unless 10; jump 6; 10 jump 11; 11 jump 0; 12 return 0"},
		{"while behind a return", "return; while t { a = 1; }", "mark 3; return 0; 2 mark 3; load 2; unless 9; mark 3; int 1; store 0; jump 2; 9 return 0"},
		{"return in while", "while t { return; }", "mark 3; load 2; unless 6; mark 3; return 0; jump 0; 6 return 0"},

		{"return", "return;", "mark 3; return 0; return 0"},
		{"statements behind a return", "return;\na = 1;\nif t { b = 2; }\nreturn;", "mark 3; return 0; mark 4; int 1; store 0; mark 5; load 2; unless 11; mark 5; int 2; store 1; 11 mark 6; return 0; return 0"},
		{"return in if and else", "if t { return; } else { return; } a = 1;", "mark 3; load 2; unless 6; mark 3; return 0; jump 8; 6 mark 3; return 0; 8 mark 3; int 1; store 0; return 0"},
	} {
		code := compiled(t, around(c.row))
		expect(t, c.what, listed(code, 0), unnumbered(c.want))
	}
}

// P8.1: functions with a result and without, each with a return at its end and without one, in order, and main among them.
func TestFunctions(t *testing.T) {
	c := compiled(t, `fn a(): int { return 7; }
fn b(x: int, y: bool): int { if y { return x; } else { return -x; } }
fn main() { return; }
fn c(x: str) { print(x); }
fn d(): [int] { return [1, 2, 3]; return [4]; }
fn e(t: bool) { if t { return; } else { return; } }
fn f(): int { while true { return 1; } return 2; }`)
	expect(t, "main", c.Main, 2)
	for n, want := range []struct {
		name                 string
		params, slots, stack int
		result               bool
		ins, vars            string
	}{
		{"a", 0, 0, 1, true, "mark 1; int 7; return 1; int 0; return 1", ""},
		{"b", 2, 2, 1, true, "mark 2; load 1; unless 7; mark 2; load 0; return 1; jump 11; 7 mark 2; load 0; neg; return 1; 11 int 0; return 1", "x 0 0-13, y 1 0-13"},
		{"main", 0, 0, 0, false, "mark 3; return 0; return 0", ""},
		{"c", 1, 1, 1, false, "mark 4; load 0; print 1; return 0", "x 0 0-4"},
		{"d", 0, 0, 3, true, "mark 5; int 1; int 2; int 3; array 3; return 1; mark 5; int 4; array 1; return 1; int 0; return 1", ""},
		{"e", 1, 1, 1, false, "mark 6; load 0; unless 6; mark 6; return 0; jump 8; 6 mark 6; return 0; 8 return 0", "t 0 0-9"},
		{"f", 0, 0, 1, true, "mark 7; bool 1; unless 7; mark 7; int 1; return 1; jump 0; 7 mark 7; int 2; return 1; int 0; return 1", ""},
	} {
		u := c.Units[n]
		expect(t, want.name, u.Name, want.name)
		expect(t, want.name+": parameters", u.Params, want.params)
		expect(t, want.name+": slots", u.Slots, want.slots)
		expect(t, want.name+": stack", u.Stack, want.stack)
		expect(t, want.name+": result", u.Result, want.result)
		expect(t, want.name+": code", listed(c, n), unnumbered(want.ins))
		expect(t, want.name+": variables", varsOf(u), want.vars)
	}
	for _, s := range []string{"fn main() { } fn f() { }", "fn f() { } fn main() { }", "fn f() { } fn main() { } fn g() { }"} {
		c := compiled(t, s)
		expect(t, s, c.Units[c.Main].Name, "main")
	}
	p := api.Program{}
	for n := range 31 {
		p.Funcs = append(p.Funcs, api.Func{Name: "f" + itoa(n), Result: "int", Body: parse(t, "fn f() { return f"+itoa(30-n)+"(); }").Funcs[0].Body})
	}
	p.Funcs = append(p.Funcs, parse(t, "fn main() { f30(); f0(); }").Funcs...)
	c, _, err := Program(p)
	expect(t, "32 functions", err, api.OK)
	expectCode(t, "32 functions", p, c)
}

// P8.1: the stack is the greatest height at which an instruction is reached; what nobody comes to needs none.
func TestStack(t *testing.T) {
	for _, c := range []struct {
		row  string
		want int
	}{
		{"", 0},
		{"main();", 0},
		{"tell();", 1},
		{"print(1);", 1},
		{"print(1, 2, 3);", 3},
		{"a = 1 + 2 + 3;", 2},
		{"a = 1 + (2 + 3);", 3},
		{"l[a] = b;", 3},
		{"p.x = a;", 2},
		{"t = t && u;", 1},
		{"t = t || u;", 1},
		{"t = t && u == (t || u);", 2},
		{"print(1, t && u);", 2},
		{"f(a, b, t, u, s, l, p, q);", 8},
		{"print(1, 2, new P(3, \"\"), [4, 5, 6]);", 6},
		{"a = 1; print(1, 2); b = 2;", 2},
		{"if t { print(1, 2, 3); } else { print(1, 2, 3, 4); }", 4},
		{"if t { print(1, 2, 3, 4); } else { print(1, 2, 3); }", 4},
		{"while t { print(1, 2); }", 2},
		{"return; print(1, 2, 3);", 0},
		{"if t { return; print(1, 2, 3); }", 1},
		{"if t { return; } else { return; } print(1, 2);", 1},
		{"while t { return; print(1, 2); } print(1, 2, 3);", 3},
		{"return; while t { print(1); }", 0},
	} {
		code := compiled(t, around(c.row))
		expect(t, c.row, code.Units[0].Stack, c.want)
	}
}

// P8.1, P8.6: variables: parameters from 0 to the end, lets from behind their store to the end of their row, each with a slot of its own.
func TestVariables(t *testing.T) {
	for _, c := range []struct {
		what, program string
		slots         int
		want          string
	}{
		{"none", "fn main() { }", 0, ""},
		{"parameters", "fn f(b: int, a: str, c: [int]) { } fn main() { }", 3, "b 0 0-1, a 1 0-1, c 2 0-1"},
		{"parameters of one with a result", "fn f(b: int): int { return b; } fn main() { }", 1, "b 0 0-5"},
		{"one as the last", "fn main() { let x = 1; }", 1, "x 0 3-3"},
		{"two", "fn main() { let x = 1; let y = 2; }", 2, "x 0 3-6, y 1 6-6"},
		{"parameters and lets", "fn f(a: int, b: int) { let x = 1; print(a); let y = b; } fn main() { }", 4, "a 0 0-10, b 1 0-10, x 2 3-9, y 3 9-9"},
		{"with a result", "fn f(a: int): int { let x = 1; return x; } fn main() { }", 2, "a 0 0-8, x 1 3-6"},
		{"in an if", "fn main() { if true { let x = 1; print(x); } print(2); }", 1, "x 0 6-9"},
		{"in an if, as the last", "fn main() { if true { let x = 1; } print(2); }", 1, "x 0 6-6"},
		{"in if and else", "fn main() { if true { let x = 1; } else { let y = 2; print(y); } }", 2, "x 0 6-6, y 1 10-13"},
		{"in an if with an else", "fn main() { if true { let x = 1; print(x); } else { } }", 1, "x 0 6-9"},
		{"in a while", "fn main() { while true { let x = 1; print(x); } }", 1, "x 0 6-9"},
		{"in a while, as the last", "fn main() { while true { let x = 1; } print(1); }", 1, "x 0 6-6"},
		{"one behind the other", "fn main() { if true { let x = 1; } while true { let y = 2; } let z = 3; if true { let w = 4; } else { let v = 5; } print(6); }", 5, "x 0 6-6, y 1 12-12, z 2 16-29, w 3 22-22, v 4 26-26"},
		{"within one another", "fn main() { let a = 1; if true { let b = 2; while true { let c = 3; print(c); } let d = 4; } let e = 5; }", 5, "a 0 3-25, b 1 9-22, c 2 15-18, d 3 22-22, e 4 25-25"},
		{"behind a return", "fn main() { return; let x = 1; print(x); }", 1, "x 0 5-8"},
		{"with && in it", "fn main() { let x = true && false; let y = x || x; }", 2, "x 0 7-14, y 1 14-14"},
		{"of the same name in two functions", "fn f(y: int) { let x = y; } fn main() { let y = 1; let x = 2; }", 2, "y 0 0-4, x 1 3-3"},
	} {
		code := compiled(t, c.program)
		expect(t, c.what+": slots", code.Units[0].Slots, c.slots)
		expect(t, c.what, varsOf(code.Units[0]), c.want)
	}
	c := compiled(t, "fn f(y: int) { let x = y; } fn main() { let y = 1; let x = 2; }")
	expect(t, "of the same name in the other function", varsOf(c.Units[1]), "y 0 3-6, x 1 6-6")

	// All 32 that a function may have.
	p := parse(t, "fn f(a: int, b: int) { } fn main() { }")
	for n := range 30 {
		p.Funcs[0].Body = append(p.Funcs[0].Body, parse(t, "fn f() { let v"+itoa(n)+" = a + b; }").Funcs[0].Body...)
	}
	c, _, err := Program(p)
	expect(t, "32 variables", err, api.OK)
	expectCode(t, "32 variables", p, c)
	expect(t, "32 variables: the last slot", c.Units[0].Vars[31].Slot, 31)
}
