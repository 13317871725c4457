package compile

import (
	"fmt"
	"strings"
	"testing"

	"hindcast/api"
	"hindcast/syntax"
	"hindcast/types"
)

// P8.2: a text that is no program is told with the line of the byte at which it can't go on.
func TestSourceNoProgram(t *testing.T) {
	for _, c := range []struct {
		text string
		line int
		err  api.Errno
	}{
		{"1", 1, api.ErrSyntax},
		{"&", 1, api.ErrSyntax},
		{"  \t x", 1, api.ErrSyntax},
		{"\n1", 2, api.ErrSyntax},
		{"\n\n\n&", 4, api.ErrSyntax},
		{"fn", 1, api.ErrSyntax},
		{"fn main() {", 1, api.ErrSyntax},
		{"fn main() {\n", 2, api.ErrSyntax},
		{"fn main() {\n\n  \n", 4, api.ErrSyntax},
		{"fn main() { } // \n1\n", 2, api.ErrSyntax},
		{"fn main() {\n1 = 2;\n}", 2, api.ErrSyntax},
		{"fn main() {\n1\n=\n2;\n}", 3, api.ErrSyntax},
		{"fn main() {\nlet x =\n\n;}", 4, api.ErrSyntax},
		{"fn main() { let x = \"a\\n\\n\" & 1; }", 1, api.ErrSyntax},
		{"fn main() {\nlet x = \"a;\n}", 2, api.ErrSyntax},
		{"record P { }\nfn main() { }", 1, api.ErrSyntax},
		{strings.Repeat("a", 21), 1, api.ErrBig},
		{"\n\n" + strings.Repeat("a", 21), 3, api.ErrBig},
		{"9223372036854775808", 1, api.ErrBig},
		{"fn main() {\nprint(9223372036854775808);\n}", 2, api.ErrBig},
		{"fn main() {\n\n\nprint(\"" + strings.Repeat("a", 256) + "\");\n}", 4, api.ErrBig},
		{strings.Repeat("\n", 4095) + "1", 4096, api.ErrSyntax},
		{strings.Repeat("\n", 4096-len("fn")) + "fn", 4095, api.ErrSyntax},
		{"fn" + strings.Repeat("\n", 4094), 4095, api.ErrSyntax},
		{"1" + strings.Repeat("\n", 4095), 1, api.ErrSyntax},
	} {
		expectNoSource(t, c.text, c.line, c.err)
	}
}

// P8.2: a text of more than MaxSource bytes, and one that is too deep, are told at 0.
func TestSourceNoLine(t *testing.T) {
	program := "fn main() { }"
	for _, s := range []string{
		strings.Repeat("\n", 4097), strings.Repeat("\n", 4096) + "1", strings.Repeat("a", 4097), strings.Repeat("1", 5000), strings.Repeat(program, 400),
		program + strings.Repeat(" ", 4097-len(program)), "\n1" + strings.Repeat(" ", 4096), strings.Repeat("\xff", 1<<16),
	} {
		expectNoSource(t, s, 0, api.ErrBig)
	}
	c, line, err := Source(program + strings.Repeat(" ", 4096-len(program)))
	if err != api.OK || line != 0 || len(c.Units) != 1 {
		t.Errorf("just MaxSource bytes: error %d at %d", err, line)
	}

	minuses := func(n int) string { return "\nfn main() {\n\nlet x = " + strings.Repeat("-", n) + "1;\n}" }
	compiled(t, minuses(22))
	for _, s := range []string{
		minuses(23),
		minuses(500),
		"fn main() {\n" + strings.Repeat("if true {\n", 24) + strings.Repeat("}", 25),
		"fn nobody() {\nlet x = zz;\n" + strings.Repeat("while 1 {\n", 24) + strings.Repeat("}", 25),
	} {
		expectNoSource(t, s, 0, api.ErrDeep)
	}
	compiled(t, "fn main() {\n"+strings.Repeat("if true {\n", 23)+strings.Repeat("}", 24))
}

// P8.1: what types.Check tells, and its line: one program for each of its errors.
func TestNotWellTyped(t *testing.T) {
	main := "\nfn main() { }"
	row := func(n int, s, between string) string {
		var l []string
		for i := range n {
			l = append(l, strings.ReplaceAll(s, "#", itoa(i)))
		}
		return strings.Join(l, between)
	}
	for _, c := range []struct {
		text string
		line int
		err  api.Errno
	}{
		{row(17, "record R# { x: int }", "\n") + main, 17, api.ErrBig},
		{"\nrecord int { x: int }" + main, 2, api.ErrName},
		{"record P { x: int }\nrecord P { x: int }" + main, 2, api.ErrName},
		{"\n\nrecord P { " + row(9, "x#: int", ", ") + " }" + main, 3, api.ErrBig},
		{"record\nP { x: int,\nx: int }" + main, 1, api.ErrName},
		{"\nrecord P { x: Q }" + main, 2, api.ErrType},
		{row(33, "fn f#() { }", "\n"), 33, api.ErrBig},
		{main + "\nfn len() { }", 3, api.ErrName},
		{main + "\n\nfn main() { }", 4, api.ErrName},
		{"fn f(" + row(9, "a#: int", ", ") + ") { }" + main, 1, api.ErrBig},
		{"\nfn f(a: int, a: int) { }" + main, 2, api.ErrName},
		{"\nfn f(a: P) { }" + main, 2, api.ErrType},
		{"\nfn f(): P { }" + main, 2, api.ErrType},
		{"", 0, api.ErrName},
		{"\n\n// nothing\n", 0, api.ErrName},
		{"\nfn f() { }", 0, api.ErrName},
		{"\nfn main(a: int) { }", 0, api.ErrName},
		{"\nfn main(): int { return 1; }", 0, api.ErrName},
		{"fn main() {\nlet x = main();\n}", 2, api.ErrType},
		{"fn main() {\nlet x = 1;\nlet x = 2;\n}", 3, api.ErrName},
		{"fn f(a: int) {\nlet a = 1;\n}" + main, 2, api.ErrName},
		{"fn main() {\nif true { let x = 1; }\nelse {\nlet x = 2; }\n}", 4, api.ErrName},
		{"fn main() {\nif true { let x = 1; }\nx = 2;\n}", 3, api.ErrName},
		{"fn main() {\n" + row(33, "let x# = 1;", "\n") + "\n}", 34, api.ErrBig},
		{"fn main() {\nlet x = 1;\nx = true;\n}", 3, api.ErrType},
		{"fn main() {\nlet x = 1;\nx =\nzz;\n}", 4, api.ErrName},
		{"fn main() {\nif\n1 { }\n}", 2, api.ErrType},
		{"fn main() {\nwhile\n\"\" { }\n}", 2, api.ErrType},
		{"fn main() {\nwhile\n-\"\" == 1 { }\n}", 3, api.ErrType},
		{"fn main() {\nreturn\n1;\n}", 2, api.ErrType},
		{"fn f(): int {\nreturn;\n}" + main, 2, api.ErrType},
		{"fn f(): int {\nreturn true;\n}" + main, 2, api.ErrType},
		{"fn main() {\n\n1; }", 3, api.ErrType},
		{"fn main() {\nnobody();\n}", 2, api.ErrName},
		{"fn main() {\nprint();\n}", 2, api.ErrType},
		{"fn main() {\nprint(1,\nzz);\n}", 3, api.ErrName},
		{"fn main() {\nprint(new\nP(1));\n}", 2, api.ErrName},
		{"record P { x: int } fn main() {\nprint(new P(1).y);\n}", 2, api.ErrName},
		{"fn main() {\nprint(1 +\ntrue);\n}", 2, api.ErrType},
		{"\nfn f(): int {\nif true { return 1; }\n}" + main, 2, api.ErrType},
		{"fn main() { } fn f() {\nlet x = print(1); }", 2, api.ErrType},
	} {
		p := parse(t, c.text)
		line, err := types.Check(p)
		if line != c.line || err != c.err {
			t.Errorf("%q: types.Check: error %d at %d: the test is wrong", c.text, err, line)
		}
		expectNoSource(t, c.text, c.line, c.err)
		expectNoProgram(t, c.text, p, c.line, c.err)
	}
}

// P8.1: programs that no text has: wrong ones, and those that are well-typed all the same.
func TestProgramsOfNoText(t *testing.T) {
	main := func(l ...api.Stmt) api.Program { return api.Program{Funcs: []api.Func{{Name: "main", Body: l}}} }
	do := func(e api.Expr) api.Stmt { return api.Stmt{Kind: api.SDo, E: []api.Expr{e}, Line: 5} }
	number := api.Expr{Kind: api.EInt, N: 1}
	within := []api.Stmt{{Kind: api.SWhile, E: []api.Expr{{Kind: api.EBool}}}}
	within[0].Body = within
	loop := []api.Expr{{Kind: api.EArray}}
	loop[0].Kids = loop
	for what, p := range map[string]api.Program{
		"no name":                        {Funcs: []api.Func{{}}},
		"a word as a name":               {Funcs: []api.Func{{Name: "fn"}}},
		"a record without fields":        {Records: []api.Record{{Name: "P", Line: 3}}, Funcs: []api.Func{{Name: "main"}}},
		"a type that is none":            {Funcs: []api.Func{{Name: "main", Result: "[]"}}},
		"a statement of no kind":         main(api.Stmt{}),
		"a statement of kind 8":          main(api.Stmt{Kind: 8}),
		"a statement of kind -1":         main(api.Stmt{Kind: -1}),
		"a let without an expression":    main(api.Stmt{Kind: api.SLet, S: "x"}),
		"a let of two":                   main(api.Stmt{Kind: api.SLet, S: "x", E: []api.Expr{number, number}}),
		"a return of two":                main(api.Stmt{Kind: api.SReturn, E: []api.Expr{number, number}}),
		"a set of no place":              main(api.Stmt{Kind: api.SSet, E: []api.Expr{number, number}}),
		"an if with an else's row":       main(api.Stmt{Kind: api.SIf, E: []api.Expr{{Kind: api.EBool}}, Else: []api.Stmt{{Kind: api.SReturn}}}),
		"a condition that is missing":    main(api.Stmt{Kind: api.SWhile}),
		"an expression of no kind":       main(do(api.Expr{})),
		"an expression of kind 12":       main(do(api.Expr{Kind: 12})),
		"a number below 0":               main(do(api.Expr{Kind: api.ECall, S: "print", Kids: []api.Expr{{Kind: api.EInt, N: -1}}})),
		"a truth of 2":                   main(do(api.Expr{Kind: api.ECall, S: "print", Kids: []api.Expr{{Kind: api.EBool, N: 2}}})),
		"a text that can't be":           main(do(api.Expr{Kind: api.ECall, S: "print", Kids: []api.Expr{{Kind: api.EStr, S: "\x00"}}})),
		"a text that is too long":        main(do(api.Expr{Kind: api.ECall, S: "print", Kids: []api.Expr{{Kind: api.EStr, S: strings.Repeat("a", 256)}}})),
		"a sign that is none":            main(do(api.Expr{Kind: api.EBinary, S: "&", Kids: []api.Expr{number, number}})),
		"a sign with one kid":            main(do(api.Expr{Kind: api.EBinary, S: "+", Kids: []api.Expr{number}})),
		"an array of none":               main(do(api.Expr{Kind: api.EArray})),
		"a row that stands in itself":    main(within...),
		"a kid that stands in itself":    main(do(loop[0])),
		"wrong at a line, and elsewhere": main(do(api.Expr{Kind: api.EName, S: "zz", Line: 7}), api.Stmt{Kind: 8}),
	} {
		expectNoProgram(t, what, p, 0, api.ErrArg)
	}
	expectNoProgram(t, "nothing", api.Program{}, 0, api.ErrName)
	expectNoProgram(t, "a line below 0", main(api.Stmt{Kind: api.SDo, E: []api.Expr{number}, Line: -9}), -9, api.ErrType)

	// Lines may be any, and a program may be longer than a text.
	p := main(api.Stmt{Kind: api.SReturn, Line: -7}, api.Stmt{Kind: api.SReturn}, api.Stmt{Kind: api.SReturn, Line: 1 << 62})
	for n := range 1000 {
		p.Funcs[0].Body = append(p.Funcs[0].Body, api.Stmt{Kind: api.SReturn, Line: n * n})
	}
	if _, err := syntax.Print(p); err != api.ErrBig {
		t.Error("it is not long enough")
	}
	c, _, err := Program(p)
	expect(t, "a long program", err, api.OK)
	expectCode(t, "a long program", p, c)
	expect(t, "the first lines", fmt.Sprint(c.Units[0].Ins[:6]), fmt.Sprint([]api.Ins{{A: -7}, {Op: api.OpReturn}, {}, {Op: api.OpReturn}, {A: 1 << 62}, {Op: api.OpReturn}}))
}

// body tells a program whose main has these statements.
func body(t *testing.T, s string) api.Program { return parse(t, "fn main() { "+s+" }") }

// times tells so many times the statements of a text.
func times(t *testing.T, n int, s string) []api.Stmt {
	var l []api.Stmt
	for range n {
		l = append(l, body(t, s).Funcs[0].Body...)
	}
	return l
}

func expectFits(t *testing.T, what string, p api.Program) api.Code {
	t.Helper()
	c, line, err := Program(p)
	if line != 0 || err != api.OK {
		t.Errorf("%s: error %d at %d", what, err, line)
		return c
	}
	expectCode(t, what, p, c)
	return c
}

// P8.1: just MaxIns instructions in a unit, and one more.
func TestMostInstructions(t *testing.T) {
	for n := range 2 {
		p := body(t, "return;")
		p.Funcs = append(p.Funcs, api.Func{Name: "f", Line: 9})
		was := times(t, 1365, "input();") // each comes to 3, and return 0 stands behind them
		p.Funcs[n].Body = was
		code := expectFits(t, "1365 times 3", p)
		expect(t, "1365 times 3", len(code.Units[n].Ins), 4096)
		for _, more := range []string{"return;", "main();", "let t = true;", "while true { }"} {
			p.Funcs[n].Body = append(was[:len(was):len(was)], times(t, 1, more)...)
			expectNoProgram(t, more+" behind", p, 0, api.ErrBig)
			p.Funcs[n].Body = append(times(t, 1, more), was...)
			expectNoProgram(t, more+" ahead", p, 0, api.ErrBig)
		}
	}
	// One instruction more alone: a minus, and a result.
	p := body(t, "")
	p.Funcs[0].Body = append(times(t, 1364, "input();"), times(t, 1, "print(1);")...)
	code := expectFits(t, "1364 times 3, 3 and 1", p)
	expect(t, "1364 times 3, 3 and 1", len(code.Units[0].Ins), 4096)
	p.Funcs[0].Body[1364] = body(t, "print(-1);").Funcs[0].Body[0]
	expectNoProgram(t, "with a minus", p, 0, api.ErrBig)
	p.Funcs[0].Body[1364] = body(t, "return;").Funcs[0].Body[0]
	code = expectFits(t, "with a return", p)
	expect(t, "with a return", len(code.Units[0].Ins), 4095)

	p = parse(t, "fn main() { } fn f(): int { return 1; }")
	p.Funcs[1].Body = append(append(times(t, 1363, "input();"), times(t, 1, "main();")...), p.Funcs[1].Body...)
	code = expectFits(t, "with a result", p)
	expect(t, "with a result", len(code.Units[1].Ins), 4096)
	p.Funcs[1].Body[1363] = body(t, "input();").Funcs[0].Body[0]
	expectNoProgram(t, "with a result, more", p, 0, api.ErrBig)

	// Each unit has its own: all of them may have the most.
	p = body(t, "")
	p.Funcs[0].Body = times(t, 1365, "input();")
	for n := range 3 {
		p.Funcs = append(p.Funcs, api.Func{Name: "f" + itoa(n), Body: p.Funcs[0].Body})
	}
	expectFits(t, "four of the most", p)

	// A text may come to so many, too.
	most := "fn main(){let a=true;" + strings.Repeat("a="+strings.Repeat("a&&", 21)+"a;", 47) // 3 and 47 times 87
	code = compiled(t, most+"a=a;}")
	expect(t, "a text", len(code.Units[0].Ins), 4096)
	expectNoSource(t, most+"a=!a;}", 0, api.ErrBig)
}

// P8.1: just the height MaxStack, and one more; what nobody comes to has no height.
func TestGreatestStack(t *testing.T) {
	ones := func(n int) string { return strings.TrimSuffix(strings.Repeat("1,", n), ",") }
	for _, c := range []struct{ what, most, more string }{
		{"print", "print(" + ones(256) + ");", "print(" + ones(257) + ");"},
		{"an array", "let x = [" + ones(256) + "];", "let x = [" + ones(257) + "];"},
		{"an array within print", "print(1, 2, [" + ones(254) + "]);", "print(1, 2, [" + ones(255) + "]);"},
		{"a sign behind others", "print(" + ones(254) + ", 1 + 2);", "print(" + ones(255) + ", 1 + 2);"},
		{"&& behind others", "print(" + ones(255) + ", true && false);", "print(" + ones(256) + ", true && false);"},
		{"|| behind others", "print(" + ones(255) + ", false || true);", "print(" + ones(256) + ", false || true);"},
		{"a call behind others", "print(" + ones(253) + ", g(1, 2, 3));", "print(" + ones(254) + ", g(1, 2, 3));"},
		{"a condition", "if [" + ones(256) + "][0] == 1 { }", "if [" + ones(257) + "][0] == 1 { }"},
		{"a place", "[1, 2][0] = len([" + ones(254) + "]);", "[1, 2][0] = len([" + ones(255) + "]);"},
		{"within an else", "if true { } else { print(" + ones(256) + "); }", "if true { } else { print(" + ones(257) + "); }"},
	} {
		g := " fn g(a: int, b: int, c: int): int { return 1; }"
		code := compiled(t, "fn main() { "+c.most+" }"+g)
		expect(t, c.what, code.Units[0].Stack, 256)
		expectNoSource(t, "fn main() { "+c.more+" }"+g, 0, api.ErrBig)
		expectNoSource(t, "fn f() {\n"+c.more+" }"+g+" fn main() { f(); }", 0, api.ErrBig)
	}
	// Nobody comes to it, and no instruction takes more than there may be.
	code := compiled(t, "fn main() { return; print(1, ["+ones(256)+"]); }")
	expect(t, "behind a return", code.Units[0].Stack, 0)
	// Nobody comes to it, but a right code has no such instruction.
	expectNoSource(t, "fn main() { return; print("+ones(257)+"); }", 0, api.ErrBig)
	expectNoSource(t, "fn main() { return; let x = ["+ones(257)+"]; }", 0, api.ErrBig)
}

// P8.1: just MaxStrs texts, and one more, in one unit and in several.
func TestMostTexts(t *testing.T) {
	printed := func(from, to int) []api.Stmt {
		var l []api.Stmt
		for n := from; n < to; n++ {
			l = append(l, body(t, `print("t`+itoa(n)+`");`).Funcs[0].Body...)
		}
		return l
	}
	p := parse(t, "record P { t0: int, x: int } fn p(): P { return p(); } fn main() { }")
	p.Funcs[1].Body = printed(0, 1024)
	code := expectFits(t, "1024", p)
	expect(t, "1024", len(code.Strs), 1024)
	p.Funcs[1].Body = append(p.Funcs[1].Body, printed(0, 300)...)
	expectFits(t, "1024, some of them twice", p)
	p.Funcs[1].Body = append(printed(0, 1024), body(t, "print(p().t0); p().t0 = 1;").Funcs[0].Body...)
	expectFits(t, "1024, and a field of that name", p)
	p.Funcs[1].Body = printed(0, 1025)
	expectNoProgram(t, "1025", p, 0, api.ErrBig)
	p.Funcs[1].Body = append(printed(0, 1024), body(t, "print(p().x);").Funcs[0].Body...)
	expectNoProgram(t, "1024, and a field", p, 0, api.ErrBig)
	p.Funcs[1].Body = append(printed(0, 1024), body(t, "p().x = 1;").Funcs[0].Body...)
	expectNoProgram(t, "1024, and a field that is set", p, 0, api.ErrBig)
	p.Funcs[1].Body = append(printed(0, 1024), body(t, `print("");`).Funcs[0].Body...)
	expectNoProgram(t, "1024, and an empty one", p, 0, api.ErrBig)

	p.Funcs[1].Body = printed(0, 600)
	p.Funcs = append(p.Funcs, api.Func{Name: "f", Body: printed(400, 1024)})
	expectFits(t, "1024 in two units", p)
	p.Funcs[2].Body = printed(400, 1025)
	expectNoProgram(t, "1025 in two units", p, 0, api.ErrBig)
}
