package compile

import (
	"strings"
	"testing"

	"hindcast/api"
)

// around is a program that has something of everything; what is asked for stands in its first function, whose parameters have the slots 0 to 7.
func around(s string) string {
	return "record P { x: int, y: str } record Q { p: P, b: bool, l: [int] }\n" +
		"fn f(a: int, b: int, t: bool, u: bool, s: str, l: [int], p: P, q: Q) {\n" + s + "\n}\n" +
		"fn main() { }\nfn num(n: int): int { return n; }\nfn two(p: P, s: str): Q { return two(p, s); }\nfn quiet(t: bool) { }\nfn tell(): P { return new P(1, \"\"); }\n"
}

// P8.1: the code of expressions, each kind alone and within others; the texts are those of the unit.
func TestExpressions(t *testing.T) {
	for _, c := range []struct{ expr, want, texts string }{
		{"0", "int 0", ""},
		{"7", "int 7", ""},
		{"9223372036854775807", "int 9223372036854775807", ""},
		{"true", "bool 1", ""},
		{"false", "bool 0", ""},
		{`""`, "str 0", ""},
		{`"a b"`, "str 0", "a b"},
		{"a", "load 0", ""},
		{"q", "load 7", ""},

		{"-a", "load 0; neg", ""},
		{"--a", "load 0; neg; neg", ""},
		{"-(a + 1)", "load 0; int 1; add; neg", ""},
		{"!t", "load 2; not", ""},
		{"!!(t == u)", "load 2; load 3; eq; not; not", ""},

		{"a + b", "load 0; load 1; add", ""},
		{"a - b", "load 0; load 1; sub", ""},
		{"a * b", "load 0; load 1; mul", ""},
		{"a / b", "load 0; load 1; div", ""},
		{"a % b", "load 0; load 1; rem", ""},
		{"a == b", "load 0; load 1; eq", ""},
		{"a != b", "load 0; load 1; ne", ""},
		{"a < b", "load 0; load 1; lt", ""},
		{"a <= b", "load 0; load 1; le", ""},
		{"a > b", "load 0; load 1; gt", ""},
		{"a >= b", "load 0; load 1; ge", ""},
		{`s + "x"`, "load 4; str 0; add", "x"},
		{`"x" < s`, "str 0; load 4; lt", "x"},
		{"a - b - 1", "load 0; load 1; sub; int 1; sub", ""},
		{"a - (b - 1)", "load 0; load 1; int 1; sub; sub", ""},
		{"a + b * 2 < -a % 3", "load 0; load 1; int 2; mul; add; load 0; neg; int 3; rem; lt", ""},

		{"l[a]", "load 5; load 0; index", ""},
		{"[l, l][a][b]", "load 5; load 5; array 2; load 0; index; load 1; index", ""},
		{"l[l[0]]", "load 5; load 5; int 0; index; index", ""},
		{"p.x", "load 6; field 0", "x"},
		{"q.p.y", "load 7; field 0; field 1", "p|y"},
		{"q.l[q.p.x]", "load 7; field 0; load 7; field 1; field 2; index", "l|p|x"},

		{"[a]", "load 0; array 1", ""},
		{"[a, b, 1]", "load 0; load 1; int 1; array 3", ""},
		{"[[a], [b, 1]]", "load 0; array 1; load 1; int 1; array 2; array 2", ""},
		{`new P(a, "y")`, "load 0; str 0; new 0", "y"},
		{"new Q(new P(b, s), t, [a])", "load 1; load 4; new 0; load 2; load 0; array 1; new 1", ""},
		{"new Q(p, t, l).b", "load 6; load 2; load 5; new 1; field 0", "b"},

		{"num(a)", "load 0; call 2", ""},
		{"num(num(a) + 1)", "load 0; call 2; int 1; add; call 2", ""},
		{"two(tell(), s).p", "call 5; load 4; call 3; field 0", "p"},
		{"len(l)", "load 5; len", ""},
		{`len("abc") + len(s)`, "str 0; len; load 4; len; add", "abc"},
		{"str(a)", "load 0; show", ""},
		{"str(str(t))", "load 2; show; show", ""},
		{"array(a, b)", "load 0; load 1; fill", ""},
		{"array(len(l), [p])", "load 5; len; load 6; array 1; fill", ""},
		{"input()", "input", ""},
		{"input() - input()", "input; input; sub", ""},
	} {
		code := compiled(t, around("let r = "+c.expr+";"))
		expect(t, c.expr, listed(code, 0), "mark 3; "+c.want+"; store 8; return 0")
		texts := strings.Join(code.Strs[:len(code.Strs)-1], "|") // the last one is tell's
		if last := code.Strs[len(code.Strs)-1]; last != "" || c.expr == `""` {
			texts = strings.Join(code.Strs, "|")
		}
		expect(t, c.expr+": texts", texts, c.texts)
	}
}

// P8.1: && and || by themselves, within one another, in a condition, and as a place's index.
func TestAndOr(t *testing.T) {
	for _, c := range []struct{ row, want string }{
		{"t = t && u;", "0 mark 3; load 2; unless 5; load 3; jump 6; 5 bool 0; 6 store 2; return 0"},
		{"t = t || u;", "0 mark 3; load 2; unless 5; bool 1; jump 6; 5 load 3; 6 store 2; return 0"},
		{"t = t && u && false;", "mark 3; load 2; unless 5; load 3; jump 6; 5 bool 0; 6 unless 9; bool 0; jump 10; 9 bool 0; 10 store 2; return 0"},
		{"t = t && (u && false);", "mark 3; load 2; unless 9; load 3; unless 7; bool 0; jump 8; 7 bool 0; 8 jump 10; 9 bool 0; 10 store 2; return 0"},
		{"t = t || u || true;", "mark 3; load 2; unless 5; bool 1; jump 6; 5 load 3; 6 unless 9; bool 1; jump 10; 9 bool 1; 10 store 2; return 0"},
		{"t = t || (u || true);", "mark 3; load 2; unless 5; bool 1; jump 10; 5 load 3; unless 9; bool 1; jump 10; 9 bool 1; 10 store 2; return 0"},
		{"t = t && u || false;", "mark 3; load 2; unless 5; load 3; jump 6; 5 bool 0; 6 unless 9; bool 1; jump 10; 9 bool 0; 10 store 2; return 0"},
		{"t = t || u && false;", "mark 3; load 2; unless 5; bool 1; jump 10; 5 load 3; unless 9; bool 0; jump 10; 9 bool 0; 10 store 2; return 0"},
		{"t = (t || u) && false;", "mark 3; load 2; unless 5; bool 1; jump 6; 5 load 3; 6 unless 9; bool 0; jump 10; 9 bool 0; 10 store 2; return 0"},
		{"t = !(t && u);", "mark 3; load 2; unless 5; load 3; jump 6; 5 bool 0; 6 not; store 2; return 0"},
		{"if t && u { }", "mark 3; load 2; unless 5; load 3; jump 6; 5 bool 0; 6 unless 7; 7 return 0"},
		{"if t || u { quiet(t); } else { }", "mark 3; load 2; unless 5; bool 1; jump 6; 5 load 3; 6 unless 11; mark 3; load 2; call 4; jump 11; 11 return 0"},
		{"while t && u { a = 1; }", "mark 3; load 2; unless 5; load 3; jump 6; 5 bool 0; 6 unless 11; mark 3; int 1; store 0; jump 0; 11 return 0"},
		{"while t || u { }", "mark 3; load 2; unless 5; bool 1; jump 6; 5 load 3; 6 unless 8; jump 0; 8 return 0"},
		{"l[len([t && u])] = len([t || u]);", "mark 3; load 5; load 2; unless 6; load 3; jump 7; 6 bool 0; 7 array 1; len; load 2; unless 13; bool 1; jump 14; 13 load 3; 14 array 1; len; setindex; return 0"},
		{"q.b = t && u;", "mark 3; load 7; load 2; unless 6; load 3; jump 7; 6 bool 0; 7 setfield 0; return 0"},
		{"print(t && u, t || u);", "mark 3; load 2; unless 5; load 3; jump 6; 5 bool 0; 6 load 2; unless 10; bool 1; jump 11; 10 load 3; 11 print 2; return 0"},
	} {
		code := compiled(t, around(c.row))
		expect(t, c.row, listed(code, 0), unnumbered(c.want))
	}
}

// unnumbered leaves out the numbers with which a test says where jumps lead, and that they are right.
func unnumbered(s string) string {
	l := strings.Split(s, "; ")
	for n, ins := range l {
		if number, rest, _ := strings.Cut(ins, " "); number != "" && strings.Trim(number, "0123456789") == "" {
			if number != itoa(n) {
				panic("the test is wrong: " + s)
			}
			l[n] = rest
		}
	}
	return strings.Join(l, "; ")
}

// P8.1: an expression alone is popped if it puts a value, and print takes as many as there are.
func TestAlone(t *testing.T) {
	for _, c := range []struct{ row, want string }{
		{"print(1);", "int 1; print 1"},
		{`print("a", a, t, l, p);`, "str 0; load 0; load 2; load 5; load 6; print 5"},
		{"print(num(1));", "int 1; call 2; print 1"},
		{"num(1);", "int 1; call 2; pop"},
		{"tell();", "call 5; pop"},
		{"quiet(t);", "load 2; call 4"},
		{"main();", "call 1"},
		{"f(a, b, t, u, s, l, p, q);", "load 0; load 1; load 2; load 3; load 4; load 5; load 6; load 7; call 0"},
		{"len(s);", "load 4; len; pop"},
		{"str(a);", "load 0; show; pop"},
		{"array(a, b);", "load 0; load 1; fill; pop"},
		{"input();", "input; pop"},
	} {
		code := compiled(t, around(c.row))
		expect(t, c.row, listed(code, 0), "mark 3; "+c.want+"; return 0")
	}
	// A function's own name is none that is built in, and a variable may have any function's name.
	c := compiled(t, "fn main() { let len = [1]; let print = len(len); let main = 2; print(print, main); main(); }")
	expect(t, "names of variables", listed(c, 0), "mark 1; int 1; array 1; store 0; mark 1; load 0; len; store 1; mark 1; int 2; store 2; mark 1; load 1; load 2; print 2; mark 1; call 0; return 0")
}

// P8.1: records as shapes: none, and several.
func TestRecords(t *testing.T) {
	c := compiled(t, "fn main() { }")
	expect(t, "no records", len(c.Shapes), 0)
	c = compiled(t, "record B { y: [A], x: int } fn main() { let b = new C(1, \"\"); } record A { x: B } record C { x: int, A: str }")
	if len(c.Shapes) != 3 || c.Shapes[0].Name != "B" || c.Shapes[1].Name != "A" || c.Shapes[2].Name != "C" {
		t.Fatalf("the shapes are %v", c.Shapes)
	}
	expect(t, "the fields", strings.Join(c.Shapes[0].Fields, " ")+"|"+strings.Join(c.Shapes[1].Fields, " ")+"|"+strings.Join(c.Shapes[2].Fields, " "), "y x|x|x A")
	expect(t, "the third record", c.Units[0].Ins[3], api.Ins{Op: api.OpNew, A: 2})

	p := parse(t, "fn main() { let x = new R15(1); }")
	for n := range 16 {
		p.Records = append(p.Records, parse(t, "record R"+itoa(n)+" { x: int }").Records...)
	}
	c, _, err := Program(p)
	expect(t, "16 records", err, api.OK)
	expectCode(t, "16 records", p, c)
}

// P8.1: texts stand there once, in the order in which instructions name them, whether as texts or as fields.
func TestTexts(t *testing.T) {
	record := "record P { x: int, y: str, z: P } fn p(): P { return p(); } "
	for _, c := range []struct{ program, want string }{
		{"fn main() { }", ""},
		{`fn main() { print("b", "a", "b", "c"); }`, "b|a|c"},
		{`fn g() { print("b", "a"); } fn main() { print("c", "a"); } fn h() { print("d", "b"); }`, "b|a|c|d"},
		{`fn main() { print("b"); } fn g() { print("a"); }`, "b|a"},
		{`fn main() { print("", "a", ""); }`, "|a"},
		{`fn main() { print("x"); p().x = 1; print(p().y, "y"); }`, "x|y"},
		{`fn main() { p().z.x = len("z" + p().y + "x"); }`, "z|y|x"},
		{`fn main() { p().y = "y" + p().z.y; }`, "y|z"},
		{`fn main() { p().y = "a"; }`, "a|y"},
		{`fn main() { p().z.y = "a"; }`, "z|a|y"},
		{`fn main() { return; print("behind"); }`, "behind"},
		{`fn main() { let t = "a" < "b" || "c" < "a"; if "d" == "e" { print("f"); } else { print("g"); } while "h" == "a" { print("i"); } }`, "a|b|c|d|e|f|g|h|i"},
		{`fn main() { print(str("a" + "b"), len("c"), array(1, "d"), ["e", "f"][len("g")], new P(len("h"), "i", p())); }`, "a|b|c|d|e|f|g|h|i"},
		{`fn main() { print("main", "P", "print", "new"); }`, "main|P|print|new"},
		{`fn main() { print("\n", "\\n", "\"", "\\\"", " "); }`, "\n|\\n|\"|\\\"| "},
	} {
		code := compiled(t, record+c.program)
		expect(t, c.program, strings.Join(code.Strs, "|"), c.want)
	}
	c := compiled(t, `fn main() { print(""); }`)
	expect(t, "an empty text alone", len(c.Strs), 1)
}
