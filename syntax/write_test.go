package syntax

import (
	"errors"
	"math"
	"math/rand/v2"
	"reflect"
	"slices"
	"strings"
	"testing"
	"unsafe"

	"hindcast/api"
	"hindcast/lex"
)

// wrongNames are no names.
var wrongNames = []string{"", " ", "1", "1a", "a b", " a", "a ", "a-b", "a.b", "a()", "a//", "é", "\"a\"", "let", "fn", "true", "new", "=", "a\n", strings.Repeat("n", 21), strings.Repeat("n", 1<<20)}

// wrongTypes are no types; an empty one is none but of a result.
var wrongTypes = append(slices.Clone(wrongNames[1:]), "[", "]", "[]", "[[]]", "[a", "a]", "[[a]", "[a]]", "[ a]", "[a ]", " [a]", "[a] ", "[a][b]", "[]a", "a[]", "[a,b]", "[1]", "[let]", "[[fn]]", "(a)", "]a[", strings.Repeat("[", 1<<20), strings.Repeat("[", 1000)+"a"+strings.Repeat("]", 1001))

// P4.2: the examples of the chapter.
func TestExamplesPrinted(t *testing.T) {
	for s, want := range map[string]string{"1-(2-3)": "1 - (2 - 3)", "(1-2)-3": "1 - 2 - 3", "-a.b[0]": "-a.b[0]", "(-a).b": "(-a).b", "!(x&&y)": "!(x && y)"} {
		expectExprText(t, mustExpr(t, s), want)
	}
	expectText(t, api.Program{}, "")
}

// P4.2: the patterns of expressions.
func TestExprPatterns(t *testing.T) {
	a, b := name("a"), name("b")
	for want, e := range map[string]api.Expr{
		"0": num(0), "7": num(7), "9223372036854775807": num(math.MaxInt), "true": truth(1), "false": truth(0), "a": a,
		`""`: text(""), `"a \"\\\n~"`: text("a \"\\\n~"), `"true"`: text("true"),
		"f()": call("f"), "f(a)": call("f", a), "f(a, b, 1)": call("f", a, b, num(1)),
		"new P()": neu("P"), "new P(a)": neu("P", a), "new P(a, b)": neu("P", a, b),
		"[a]": array(a), "[a, b, [a]]": array(a, b, array(a)),
		"-a": unary("-", a), "!a": unary("!", a), "--a": unary("-", unary("-", a)), "!-!a": unary("!", unary("-", unary("!", a))),
		"a[b]": index(a, b), "a.b": field(a, "b"), "a.b[0].b": field(index(field(a, "b"), num(0)), "b"), "1.b": field(num(1), "b"), "new P().b": field(neu("P"), "b"),
		"f(a + b, -a)": call("f", binary(a, "+", b), unary("-", a)), "[a || b]": array(binary(a, "||", b)), "a[a + b]": index(a, binary(a, "+", b)),
		"(a + b)[a]": index(binary(a, "+", b), a), "(-a)[b]": index(unary("-", a), b), "-(-a)[b]": unary("-", index(unary("-", a), b)), "-(a + b)": unary("-", binary(a, "+", b)),
		"a - -b": binary(a, "-", unary("-", b)), "-a - b": binary(unary("-", a), "-", b),
	} {
		expectExprText(t, e, want)
		expectText(t, inMain(do(e)), "fn f() {\n"+want+";\n}\n")
	}
	for _, x := range between {
		expectExprText(t, binary(a, x, b), "a "+x+" b")
	}
}

// P4.2: the patterns of statements, records and functions.
func TestPatterns(t *testing.T) {
	a, b := name("a"), name("b")
	for want, s := range map[string]api.Stmt{
		"let a = b;\n":                     let("a", b),
		"a = b;\n":                         set(a, b),
		"a[b] = b;\n":                      set(index(a, b), b),
		"a.b = b;\n":                       set(field(a, "b"), b),
		"(-a).b = a == b;\n":               set(field(unary("-", a), "b"), binary(a, "==", b)),
		"a;\n":                             do(a),
		"f(a);\n":                          do(call("f", a)),
		"return a;\n":                      back(a),
		"return;\n":                        back(),
		"if a {\n}\n":                      cond(a),
		"if a {\nb;\na;\n}\n":              cond(a, do(b), do(a)),
		"if a {\n} else {\n}\n":            either(a, nil, nil),
		"if a {\nb;\n} else {\na;\n}\n":    either(a, []api.Stmt{do(b)}, []api.Stmt{do(a)}),
		"if a {\n} else {\nreturn;\n}\n":   either(a, nil, []api.Stmt{back()}),
		"while a {\n}\n":                   while(a),
		"while a < b {\na = b;\n}\n":       while(binary(a, "<", b), set(a, b)),
		"if a {\nif b {\n}\n} else {\n}\n": either(a, []api.Stmt{cond(b)}, nil),
		"while a {\nwhile b {\n}\n}\n":     while(a, while(b)),
	} {
		expectText(t, inMain(s), "fn f() {\n"+want+"}\n")
		expectText(t, inMain(s, do(b), s), "fn f() {\n"+want+"b;\n"+want+"}\n")
		expectText(t, inMain(either(b, []api.Stmt{s}, []api.Stmt{s, s})), "fn f() {\nif b {\n"+want+"} else {\n"+want+want+"}\n}\n")
	}
	x, y := api.Param{Name: "x", Type: "int"}, api.Param{Name: "y", Type: "[[P]]"}
	for want, f := range map[string]api.Func{
		"fn f() {\n}\n":                              {Name: "f"},
		"fn f(): int {\n}\n":                         {Name: "f", Result: "int"},
		"fn f(x: int) {\n}\n":                        {Name: "f", Params: []api.Param{x}},
		"fn f(x: int, y: [[P]]): [int] {\na;\n}\n":   {Name: "f", Params: []api.Param{x, y}, Result: "[int]", Body: []api.Stmt{do(a)}},
		"fn main(y: [[P]], y: [[P]], x: int) {\n}\n": {Name: "main", Params: []api.Param{y, y, x}},
	} {
		expectText(t, api.Program{Funcs: []api.Func{f}}, want)
		expectText(t, api.Program{Funcs: []api.Func{f, {Name: "g"}, f}}, want+"fn g() {\n}\n"+want)
	}
	p, q := api.Record{Name: "P", Fields: []api.Param{x}}, api.Record{Name: "Q", Fields: []api.Param{y, x}}
	expectText(t, api.Program{Records: []api.Record{p}}, "record P { x: int }\n")
	expectText(t, api.Program{Records: []api.Record{q, p}}, "record Q { y: [[P]], x: int }\nrecord P { x: int }\n")
	expectText(t, api.Program{Records: []api.Record{p}, Funcs: []api.Func{{Name: "f"}}}, "record P { x: int }\nfn f() {\n}\n")
	deep := strings.Repeat("[", 2000) + "a" + strings.Repeat("]", 2000)
	expectText(t, api.Program{Funcs: []api.Func{{Name: "f", Result: deep}}}, "fn f(): "+deep+" {\n}\n")
}

// expectBracketsNeeded holds brackets against what is read without them, and the whole against what it was.
func expectBracketsNeeded(t *testing.T, e api.Expr) {
	t.Helper()
	s := mustPrintExpr(t, e)
	if got := mustExpr(t, s); !alike(got, e) {
		t.Fatalf("%q: %v, not %v", s, got, e)
	}
	l, _, _ := lex.Scan(s)
	var open []int // places of ( that wait for their ): those of a call are below 0
	for i, tok := range l {
		switch {
		case tok.Kind != api.TSign:
		case tok.S == "(" && i > 0 && l[i-1].Kind == api.TName:
			open = append(open, -1)
		case tok.S == "(":
			open = append(open, tok.At)
		case tok.S == ")":
			from := open[len(open)-1]
			open = open[:len(open)-1]
			if from < 0 {
				continue
			}
			without := s[:from] + " " + s[from+1:tok.At] + " " + s[tok.At+1:]
			if got, _, err := Expr(without); err == api.OK && alike(got, e) {
				t.Fatalf("%q: brackets that are not needed", s)
			}
		}
	}
}

// P4.2: brackets stand just where they are needed, in all expressions of depth 3 and less.
func TestBrackets(t *testing.T) {
	grow := func(kids []api.Expr) []api.Expr {
		l := []api.Expr{name("a")}
		for _, x := range kids {
			l = append(l, unary("-", x), unary("!", x), field(x, "b"), call("f", x), neu("P", x), array(x))
			for _, y := range kids {
				l = append(l, index(x, y))
				for _, sign := range between {
					l = append(l, binary(x, sign, y))
				}
			}
		}
		return l
	}
	all := grow(grow([]api.Expr{name("a")}))
	if len(all) < 5000 {
		t.Errorf("only %d expressions", len(all))
	}
	for _, e := range all {
		expectBracketsNeeded(t, e)
	}
}

// P4.2: the same of deeper ones.
func TestBracketsOfMany(t *testing.T) {
	r := rand.New(rand.NewPCG(4, 6))
	told := 0
	for range 4000 {
		e := someExpr(r, 3+r.IntN(7))
		if _, err := PrintExpr(e); err == api.ErrBig {
			continue
		}
		told++
		expectBracketsNeeded(t, e)
	}
	if told < 3000 {
		t.Errorf("only %d of 4000 are told", told)
	}
}

// P4.2: every sign beside every other, as the chapter's rows have them.
func TestSignsPrinted(t *testing.T) {
	a, b, c := name("a"), name("b"), name("c")
	for i, upper := range rows {
		for j, lower := range rows {
			for _, x := range upper {
				for _, y := range lower {
					left, right := "a "+x+" b "+y+" c", "a "+x+" (b "+y+" c)"
					if i < j {
						left, right = "(a "+x+" b) "+y+" c", "a "+x+" b "+y+" c"
					}
					expectExprText(t, binary(binary(a, x, b), y, c), left)
					expectExprText(t, binary(a, x, binary(b, y, c)), right)
				}
			}
		}
	}
}

// P4.2: an expression that has what its kind has not, or has not what it has, may not be told.
func TestUntoldExprs(t *testing.T) {
	a := name("a")
	one, two, three := []api.Expr{a}, []api.Expr{a, a}, []api.Expr{a, a, a}
	for _, c := range []struct {
		right  api.Expr
		hasN   bool
		hasS   bool
		hasnot [][]api.Expr // kids that it may not have
	}{
		{num(1), true, false, [][]api.Expr{one, two}},
		{truth(0), true, false, [][]api.Expr{one, two}},
		{truth(1), true, false, [][]api.Expr{one, two}},
		{text("a"), false, true, [][]api.Expr{one, two}},
		{text(""), false, true, [][]api.Expr{one, two}},
		{a, false, true, [][]api.Expr{one, two}},
		{call("f", a), false, true, nil},
		{call("f"), false, true, nil},
		{unary("-", a), false, true, [][]api.Expr{nil, two, three}},
		{unary("!", a), false, true, [][]api.Expr{nil, two, three}},
		{binary(a, "-", a), false, true, [][]api.Expr{nil, one, three}},
		{index(a, a), false, false, [][]api.Expr{nil, one, three}},
		{field(a, "a"), false, true, [][]api.Expr{nil, two, three}},
		{array(a), false, false, [][]api.Expr{nil, {}}},
		{neu("P", a), false, true, nil},
		{neu("P"), false, true, nil},
	} {
		mustPrintExpr(t, c.right)
		for _, n := range []int{1, -1, 2, math.MaxInt, math.MinInt} {
			if e := c.right; !c.hasN {
				e.N = n
				expectExprUntold(t, e, api.ErrArg)
			}
		}
		for _, s := range []string{"a", "-", " ", "+"} {
			if e := c.right; !c.hasS {
				e.S = s
				expectExprUntold(t, e, api.ErrArg)
			}
		}
		for _, kids := range c.hasnot {
			e := c.right
			e.Kids = kids
			expectExprUntold(t, e, api.ErrArg)
		}
		for _, kind := range []api.ExprKind{0, -1, 12, 13, math.MaxInt, math.MinInt} {
			e := c.right
			e.Kind = kind
			expectExprUntold(t, e, api.ErrArg)
		}
	}
	expectExprUntold(t, api.Expr{}, api.ErrArg)
	expectExprUntold(t, api.Expr{Line: 1}, api.ErrArg)
}

// P4.2: numbers, truths, texts, names and signs of an expression that are none.
func TestUntoldPieces(t *testing.T) {
	a := name("a")
	for _, n := range []int{-1, -7, math.MinInt} {
		expectExprUntold(t, num(n), api.ErrArg)
		expectExprUntold(t, truth(n), api.ErrArg)
	}
	for _, n := range []int{2, 3, math.MaxInt} {
		expectExprUntold(t, truth(n), api.ErrArg)
	}
	for _, s := range []string{"\t", "\r", "\x00", "\x1f", "\x7f", "\x80", "é", "a\xffb", strings.Repeat("a", 256), strings.Repeat("\n", 256), strings.Repeat("a", 1<<20)} {
		expectExprUntold(t, text(s), api.ErrArg)
	}
	for _, s := range wrongNames {
		expectExprUntold(t, name(s), api.ErrArg)
		expectExprUntold(t, call(s, a), api.ErrArg)
		expectExprUntold(t, neu(s, a), api.ErrArg)
		expectExprUntold(t, field(a, s), api.ErrArg)
		expectExprUntold(t, unary(s, a), api.ErrArg)
		expectExprUntold(t, binary(a, s, a), api.ErrArg)
	}
	for _, s := range []string{"+", "*", "/", "--", "-!", "=", "!=", "a", "&&", "(", "- "} {
		expectExprUntold(t, unary(s, a), api.ErrArg)
	}
	for _, s := range []string{"!", "=", "&", "|", "===", "+ ", " +", "+-", ".", ",", "(", "[", ":", ";", "=<", "<>", "^", "a", "&&&"} {
		expectExprUntold(t, binary(a, s, a), api.ErrArg)
	}
	for _, s := range []string{strings.Repeat("n", 20), "_", "int", "print", "A9"} {
		expectExprText(t, name(s), s)
	}
	expectExprText(t, text(strings.Repeat("\n", 255)), `"`+strings.Repeat(`\n`, 255)+`"`)
}

// P4.2: a statement that has what its kind has not, or has not what it has, may not be told.
func TestUntoldStatements(t *testing.T) {
	a := name("a")
	body := []api.Stmt{do(a)}
	one, two, three := []api.Expr{a}, []api.Expr{a, a}, []api.Expr{a, a, a}
	for _, c := range []struct {
		right   api.Stmt
		hasS    bool
		hasBody bool
		hasElse bool
		hasnot  [][]api.Expr
	}{
		{let("a", a), true, false, false, [][]api.Expr{nil, {}, two, three}},
		{set(a, a), false, false, false, [][]api.Expr{nil, one, three}},
		{cond(a), false, true, false, [][]api.Expr{nil, two, three}},
		{cond(a, do(a)), false, true, false, [][]api.Expr{nil, two, three}},
		{either(a, nil, nil), false, true, true, [][]api.Expr{nil, two, three}},
		{either(a, body, body), false, true, true, [][]api.Expr{nil, two, three}},
		{while(a), false, true, false, [][]api.Expr{nil, two, three}},
		{back(), false, false, false, [][]api.Expr{two, three}},
		{back(a), false, false, false, [][]api.Expr{two, three}},
		{do(a), false, false, false, [][]api.Expr{nil, two, three}},
	} {
		mustPrint(t, inMain(c.right))
		var wrong []api.Stmt
		change := func(do func(s *api.Stmt)) {
			s := c.right
			do(&s)
			wrong = append(wrong, s)
		}
		if !c.hasS {
			change(func(s *api.Stmt) { s.S = "a" })
			change(func(s *api.Stmt) { s.S = " " })
		}
		if !c.hasBody {
			change(func(s *api.Stmt) { s.Body = body })
		}
		if !c.hasElse {
			change(func(s *api.Stmt) { s.Else = body })
		}
		for _, l := range c.hasnot {
			change(func(s *api.Stmt) { s.E = l })
		}
		for _, kind := range []api.StmtKind{0, -1, 8, 9, math.MaxInt, math.MinInt} {
			change(func(s *api.Stmt) { s.Kind = kind })
		}
		for _, s := range wrong {
			expectStmtUntold(t, s)
		}
	}
	expectStmtUntold(t, api.Stmt{})
	for _, s := range wrongNames {
		expectStmtUntold(t, let(s, a))
	}
	for _, e := range []api.Expr{num(1), truth(1), text("a"), call("f"), unary("-", a), binary(a, "+", a), array(a), neu("P")} {
		expectStmtUntold(t, set(e, a))
		mustPrint(t, inMain(set(a, e)))
	}
}

// expectStmtUntold holds a statement against ErrArg, in each place where one stands.
func expectStmtUntold(t *testing.T, s api.Stmt) {
	t.Helper()
	a := name("a")
	expectUntold(t, inMain(s), api.ErrArg)
	expectUntold(t, inMain(do(a), s), api.ErrArg)
	expectUntold(t, inMain(cond(a, s)), api.ErrArg)
	expectUntold(t, inMain(while(a, do(a), s)), api.ErrArg)
	expectUntold(t, inMain(either(a, []api.Stmt{s}, nil)), api.ErrArg)
	expectUntold(t, inMain(either(a, nil, []api.Stmt{s})), api.ErrArg)
}

// P4.2: records and functions that may not be told.
func TestUntoldPrograms(t *testing.T) {
	x := api.Param{Name: "x", Type: "int"}
	right := api.Program{Records: []api.Record{{Name: "P", Fields: []api.Param{x, x}}}, Funcs: []api.Func{{Name: "f", Params: []api.Param{x, x}, Result: "int"}}}
	change := func(do func(p *api.Program)) {
		t.Helper()
		p := copyProgram(right, true)
		do(&p)
		expectUntold(t, p, api.ErrArg)
		p.Records = append(slices.Clone(right.Records), p.Records...)
		p.Funcs = append(slices.Clone(right.Funcs), p.Funcs...)
		expectUntold(t, p, api.ErrArg)
	}
	mustPrint(t, right)
	change(func(p *api.Program) { p.Records[0].Fields = nil })
	change(func(p *api.Program) { p.Records[0].Fields = []api.Param{} })
	change(func(p *api.Program) { p.Records[0] = api.Record{} })
	change(func(p *api.Program) { p.Funcs[0] = api.Func{} })
	for _, s := range wrongNames {
		change(func(p *api.Program) { p.Records[0].Name = s })
		change(func(p *api.Program) { p.Funcs[0].Name = s })
		for i := range 2 {
			change(func(p *api.Program) { p.Records[0].Fields[i].Name = s })
			change(func(p *api.Program) { p.Funcs[0].Params[i].Name = s })
		}
	}
	for _, s := range wrongTypes {
		change(func(p *api.Program) { p.Funcs[0].Result = s })
	}
	for _, s := range append(slices.Clone(wrongTypes), "") {
		for i := range 2 {
			change(func(p *api.Program) { p.Records[0].Fields[i].Type = s })
			change(func(p *api.Program) { p.Funcs[0].Params[i].Type = s })
		}
	}
}

// P4.2: an expression that is MaxDepth deep may be told, and one that is one deeper may not.
func TestDeepPrinted(t *testing.T) {
	for what, more := range growers() {
		e := nested(24, more)
		if s := mustPrintExpr(t, e); !alike(mustExpr(t, s), e) {
			t.Errorf("%s: %q", what, s)
		}
		mustPrint(t, inMain(do(nested(23, more))))
		expectExprUntold(t, nested(25, more), api.ErrArg)
		expectExprUntold(t, nested(26, more), api.ErrArg)
		expectExprUntold(t, nested(5000, more), api.ErrArg)
		expectUntold(t, inMain(do(e)), api.ErrArg)
	}
}

// P4.2: lines are not looked at.
func TestAnyLines(t *testing.T) {
	for _, n := range []int{0, 1, -1, math.MaxInt, math.MinInt} {
		a := api.Expr{Kind: api.EName, S: "a", Line: n}
		s := do(api.Expr{Kind: api.EUnary, S: "-", Kids: []api.Expr{a}, Line: -n})
		s.Line = n
		p := api.Program{Records: []api.Record{{Name: "P", Fields: []api.Param{{Name: "x", Type: "P"}}, Line: n}}, Funcs: []api.Func{{Name: "f", Body: []api.Stmt{s}, Line: n}}}
		expectText(t, p, "record P { x: P }\nfn f() {\n-a;\n}\n")
		expectExprText(t, a, "a")
	}
}

// P4.2: a text of MaxSource bytes, and of one more.
func TestLongTexts(t *testing.T) {
	for last := range 60 {
		// 15 texts with their commas are 15*257+14*2 bytes, in [ ]; then one of last bytes more, and so on
		full := make([]api.Expr, 15)
		for i := range full {
			full[i] = text(strings.Repeat("x", 255))
		}
		e := array(append(full, text(strings.Repeat("x", last)), text(strings.Repeat("y", 160)))...)
		size := 2 + 15*257 + 16*2 + last + 2 + 162
		s, err := PrintExpr(e)
		switch {
		case size <= 4096 && (err != api.OK || len(s) != size || !alike(mustExpr(t, s), e)):
			t.Errorf("%d bytes: %d, %d", size, len(s), err)
		case size > 4096 && (err != api.ErrBig || s != ""):
			t.Errorf("%d bytes: %q, %d", size, s, err)
		}
		p := inMain(do(e))
		p.Funcs[0].Name = "f_"
		s, err = Print(p)
		switch size += len("fn f_() {\n;\n}\n"); {
		case size <= 4096 && (err != api.OK || len(s) != size || !alikePrograms(mustParse(t, s), p)):
			t.Errorf("%d bytes: %d, %d", size, len(s), err)
		case size > 4096 && (err != api.ErrBig || s != ""):
			t.Errorf("%d bytes: %q, %d", size, s, err)
		}
	}
	for _, more := range []string{"", "b"} {
		p := api.Program{Funcs: slices.Repeat([]api.Func{{Name: "f"}}, 372)} // 11 bytes each, and 4 bytes are left
		p.Funcs[0].Name = "abcde" + more
		s, err := Print(p)
		if more == "" && (len(s) != 4096 || err != api.OK || !alikePrograms(mustParse(t, s), p)) || more != "" && (s != "" || err != api.ErrBig) {
			t.Errorf("%d, %d", len(s), err)
		}
	}
	deep := strings.Repeat("[", 1<<20) + "a" + strings.Repeat("]", 1<<20)
	expectUntold(t, api.Program{Funcs: []api.Func{{Name: "f", Result: deep}}}, api.ErrBig)
}

// P4.2: what may not be told is told ahead of what is too long, wherever it stands.
func TestWrongAndLong(t *testing.T) {
	long := array(slices.Repeat([]api.Expr{name("a")}, 20000)...)
	expectExprUntold(t, long, api.ErrBig)
	for _, wrong := range []api.Expr{num(-1), name("let"), nested(25, func(e api.Expr) api.Expr { return unary("-", e) })} {
		for _, at := range []int{0, 1500, 19999} {
			l := slices.Clone(long.Kids)
			l[at] = wrong
			expectExprUntold(t, array(l...), api.ErrArg)
		}
	}
	p := api.Program{Funcs: slices.Repeat([]api.Func{{Name: "f"}}, 2000)}
	expectUntold(t, p, api.ErrBig)
	p.Funcs[1999].Result = "[]"
	expectUntold(t, p, api.ErrArg)
	p = api.Program{Records: slices.Repeat([]api.Record{{Name: "P", Fields: []api.Param{{Name: "x", Type: "P"}}}}, 2000)}
	expectUntold(t, p, api.ErrBig)
	p.Funcs = inMain(do(api.Expr{})).Funcs
	expectUntold(t, p, api.ErrArg)
}

// The rules: a list that has itself in it has no end, and is too deep.
func TestListsInThemselves(t *testing.T) {
	for _, n := range []int{1, 2, 5} {
		kids := slices.Repeat([]api.Expr{array(name("a"))}, n)
		for i := range kids {
			kids[i].Kids = kids
		}
		expectExprUntold(t, kids[0], api.ErrArg)
	}
	body := []api.Stmt{while(name("a")), either(name("a"), nil, nil)}
	for i := range body {
		body[i].Body = body
	}
	body[1].Else = body
	expectUntold(t, inMain(body...), api.ErrArg)
}

// The rules: a great tree is gone through, and no more of its text is kept than may be.
func TestGreatTree(t *testing.T) {
	e := name("a")
	for range 19 {
		e = binary(e, "+", e)
	}
	if s, err := PrintExpr(e); s != "" || err != api.ErrBig {
		t.Errorf("%d bytes, %d", len(s), err)
	}
}

// P4.3: a program that is printed is read as it was, but for lines.
func TestThereAndBack(t *testing.T) {
	r := rand.New(rand.NewPCG(4, 7))
	told := 0
	for range 5000 {
		p := someProgram(r)
		s, err := Print(p)
		if err == api.ErrBig {
			continue
		}
		if err != api.OK {
			t.Fatalf("%v: %d", p, err)
		}
		told++
		if got := mustParse(t, s); !alikePrograms(got, p) {
			t.Fatalf("%q: %v, not %v", s, got, p)
		}
		if again := mustPrint(t, mustParse(t, s)); again != s {
			t.Fatalf("%q, not %q", again, s)
		}
	}
	if told < 4000 {
		t.Errorf("only %d of 5000 are told", told)
	}
}

// P4.4: what is read is printed, unless the text would be too long, and that is read as the same, and printed as the same.
func TestAgain(t *testing.T) {
	r := rand.New(rand.NewPCG(4, 8))
	told := 0
	for range 3000 {
		p := someProgram(r)
		w := &typist{r: r, loose: true}
		w.program(&p)
		read, _, err := Parse(w.b.String())
		if err != api.OK {
			continue
		}
		s, err := Print(read)
		if err != api.OK && err != api.ErrBig {
			t.Fatalf("%q: %d", w.b.String(), err)
		}
		if err == api.ErrBig {
			continue
		}
		told++
		again := mustParse(t, s)
		if !alikePrograms(again, read) || mustPrint(t, again) != s {
			t.Fatalf("%q: %q", w.b.String(), s)
		}
	}
	if told < 1500 {
		t.Errorf("only %d of 3000 are told", told)
	}
	for _, s := range []string{"fn f(){" + strings.Repeat("a;", 2044) + "}", "fn f(){a=[" + strings.Repeat("a,", 2041) + "a];}"} {
		if _, err := Print(mustParse(t, s)); err != api.ErrBig { // a text that is read may be too long when it is printed
			t.Errorf("%.40q: %d", s, err)
		}
	}
}

// statements tells all of a row and in it, as they stand.
func statements(l []api.Stmt) []api.Stmt {
	var all []api.Stmt
	for _, s := range l {
		all = append(all, s)
		all = append(all, statements(s.Body)...)
		all = append(all, statements(s.Else)...)
	}
	return all
}

// P4.5: what a statement begins stands in the line that it says.
func TestStatementLines(t *testing.T) {
	r := rand.New(rand.NewPCG(4, 9))
	for range 2000 {
		s, err := Print(someProgram(r))
		if err != api.OK {
			continue
		}
		lines := strings.Split(s, "\n")
		for _, f := range mustParse(t, s).Funcs {
			if !strings.HasPrefix(lines[f.Line-1], "fn "+f.Name+"(") {
				t.Fatalf("%q: %v", s, f)
			}
			last := f.Line
			for _, x := range statements(f.Body) {
				alone := strings.Split(mustPrint(t, inMain(x)), "\n")
				if lines[x.Line-1] != alone[1] || x.Line <= last {
					t.Fatalf("%q: %q in line %d", s, alone[1], x.Line)
				}
				last = x.Line
			}
		}
	}
}

// roomy tells a list with room behind its end, in which something stands.
func roomy[T any](l []T, more T) []T { return append(slices.Clone(l), more)[:len(l)] }

// The rules: what is handed in is not changed, nor what stands behind a list's end.
func TestUnchanged(t *testing.T) {
	a, z := name("a"), name("z")
	kids := roomy([]api.Expr{a, num(1)}, z)
	inner := roomy([]api.Stmt{do(a)}, do(z))
	body := roomy([]api.Stmt{let("x", call("f", kids...)), either(a, inner, inner)}, do(z))
	params := roomy([]api.Param{{Name: "x", Type: "int"}}, api.Param{Name: "z", Type: "z"})
	funcs := roomy([]api.Func{{Name: "f", Params: params, Body: body}}, api.Func{Name: "z"})
	records := roomy([]api.Record{{Name: "P", Fields: params}}, api.Record{Name: "z"})
	p := api.Program{Records: records, Funcs: funcs}
	before := copyProgram(p, true)
	mustPrint(t, p)
	mustPrintExpr(t, body[0].E[0])
	if !reflect.DeepEqual(copyProgram(p, true), before) {
		t.Error("the program is changed")
	}
	if kids[:3][2].S != "z" || inner[:2][1].E[0].S != "z" || body[:3][2].E[0].S != "z" || params[:2][1].Name != "z" || funcs[:2][1].Name != "z" || records[:2][1].Name != "z" {
		t.Error("what stands behind a list is changed")
	}
}

// within tells whether a text lies in the memory of another.
func within(x, s string) bool {
	p, from := uintptr(unsafe.Pointer(unsafe.StringData(x))), uintptr(unsafe.Pointer(unsafe.StringData(s)))
	return x != "" && s != "" && from <= p && p < from+uintptr(len(s))
}

// The rules: an answer is new memory.
func TestNewMemory(t *testing.T) {
	s := strings.Clone("record Pair { x: integer } fn f(p: Pair): integer { let v = p.x + \"text\"; if v { g(v, 1); } else { return; } }")
	first, second := mustParse(t, s), mustParse(t, s)
	stmt := first.Funcs[0].Body[0]
	for _, x := range []string{first.Records[0].Name, first.Records[0].Fields[0].Type, first.Funcs[0].Name, first.Funcs[0].Result, stmt.S, stmt.E[0].S, stmt.E[0].Kids[0].S, stmt.E[0].Kids[1].S} {
		if x == "" || within(x, s) {
			t.Errorf("%q is shared", x)
		}
	}
	want := copyProgram(second, true)
	wipe(first.Funcs[0].Body)
	clear(first.Records[0].Fields[:cap(first.Records[0].Fields)])
	clear(first.Funcs[0].Params[:cap(first.Funcs[0].Params)])
	clear(first.Records[:cap(first.Records)])
	clear(first.Funcs[:cap(first.Funcs)])
	if !reflect.DeepEqual(second, want) || !reflect.DeepEqual(mustParse(t, s), want) {
		t.Error("programs are shared")
	}
	long := text(strings.Repeat("x", 100))
	if within(long.S, mustPrintExpr(t, long)) || within(name("abc").S, mustPrintExpr(t, name("abc"))) {
		t.Error("a text is shared")
	}
}

// wipe clears statements, and all lists in them up to their room.
func wipe(l []api.Stmt) {
	var exprs func(l []api.Expr)
	exprs = func(l []api.Expr) {
		for _, e := range l {
			exprs(e.Kids)
		}
		clear(l[:cap(l)])
	}
	for _, s := range l {
		exprs(s.E)
		wipe(s.Body)
		wipe(s.Else)
	}
	clear(l[:cap(l)])
}

// What is given up with tells where and why in words, for whoever debugs this package; another panic is not taken for it.
func TestGivingUp(t *testing.T) {
	if s := (stuck{why: api.ErrSyntax, at: 7}).Error(); s != "can't go on at 7: error 6" {
		t.Error(s)
	}
	defer func() {
		if recover() == nil {
			t.Error("a mistake is hidden")
		}
	}()
	attempt(func() { panic(errors.New("a mistake")) })
}
