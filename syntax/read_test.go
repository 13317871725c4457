package syntax

import (
	"math"
	"math/rand/v2"
	"reflect"
	"slices"
	"strings"
	"testing"

	"hindcast/api"
	"hindcast/lex"
)

// P4.1: the examples of the chapter.
func TestExamplesRead(t *testing.T) {
	a := name("a")
	expectExpr(t, "1-(2-3)", binary(num(1), "-", binary(num(2), "-", num(3))))
	expectExpr(t, "(1-2)-3", binary(binary(num(1), "-", num(2)), "-", num(3)))
	expectExpr(t, "-a.b[0]", unary("-", index(field(a, "b"), num(0))))
	expectExpr(t, "(-a).b", field(unary("-", a), "b"))
	expectExpr(t, "!(x&&y)", unary("!", binary(name("x"), "&&", name("y"))))
	expectExprRefused(t, "1+", 2, api.ErrSyntax)
	expectRefused(t, "fn f(){1=2;}", 8, api.ErrSyntax)
	expectProgram(t, "", api.Program{})
}

// P4.1: no text, and nothing but what parts tokens: a program of nothing, and no expression.
func TestNothing(t *testing.T) {
	for _, s := range []string{"", " ", "\n\t", "// fn", "// fn\n\n "} {
		if p, at, err := Parse(s); len(p.Records) != 0 || len(p.Funcs) != 0 || at != 0 || err != api.OK {
			t.Errorf("%q: %v, %d, %d", s, p, at, err)
		}
		expectExprRefused(t, s, len(s), api.ErrSyntax)
	}
}

// P4.1: each kind of expression alone.
func TestSingles(t *testing.T) {
	a, b := name("a"), name("b")
	for s, want := range map[string]api.Expr{
		"0": num(0), "7": num(7), "007": num(7), "9223372036854775807": num(math.MaxInt),
		"true": truth(1), "false": truth(0), "True": name("True"),
		`""`: text(""), `"a\"\\\n"`: text("a\"\\\n"), `"+"`: text("+"), `"true"`: text("true"), `"a"`: text("a"),
		`"` + strings.Repeat("x", 255) + `"`: text(strings.Repeat("x", 255)),
		"a":                                  a, "_": name("_"), strings.Repeat("n", 20): name(strings.Repeat("n", 20)),
		"f()": call("f"), "f ( )": call("f"), "f(a)": call("f", a), "f(a,b,1)": call("f", a, b, num(1)), "f((a))": call("f", a),
		"new P()": neu("P"), "new P(a)": neu("P", a), "new\nP\n(a, b)": neu("P", a, b),
		"[a]": array(a), "[a,b,a]": array(a, b, a), "[[a]]": array(array(a)),
		"-a": unary("-", a), "!a": unary("!", a), "-1": unary("-", num(1)), "- 1": unary("-", num(1)),
		"a[b]": index(a, b), "a.b": field(a, "b"), "a . b": field(a, "b"), "1.b": field(num(1), "b"), `"a"[0]`: index(text("a"), num(0)),
		"(a)": a, "((a))": a, "(((1)))": num(1), "(f)": name("f"), "(true)": truth(1), "([a])": array(a),
	} {
		expectExpr(t, s, want)
	}
	// A text that stands for what a sign, a word or a name is stays a text.
	for _, s := range strings.Fields("a fn record let if else while return new true false ( ) { } [ ] , : ; . = == != < <= > >= + - * / % ! && ||") {
		expectExpr(t, `"`+s+`"`, text(s))
		expectExpr(t, `f("`+s+`")`, call("f", text(s)))
		expectExprRefused(t, `a "`+s+`" b`, 2, api.ErrSyntax)
		expectExprRefused(t, `"`+s+`" b`, 3+len(s), api.ErrSyntax)
		expectExprRefused(t, `"`+s+`"(b)`, 2+len(s), api.ErrSyntax)
		expectExprRefused(t, `a."`+s+`"`, 2, api.ErrSyntax)
		expectExprRefused(t, `(a "`+s+`"`, 3, api.ErrSyntax)
		expectRefused(t, `"`+s+`" f(){}`, 0, api.ErrSyntax)
		expectRefused(t, `fn f() "`+s+`" }`, 7, api.ErrSyntax)
		expectRefused(t, `fn f() {a "`+s+`" }`, 10, api.ErrSyntax)
	}
}

// P4.1: every sign between two beside every other, without brackets and with them on either side.
func TestSignsBesideSigns(t *testing.T) {
	a, b, c := name("a"), name("b"), name("c")
	for i, upper := range rows {
		for j, lower := range rows {
			for _, x := range upper {
				for _, y := range lower {
					left := binary(binary(a, x, b), y, c)
					right := binary(a, x, binary(b, y, c))
					want := left
					if j > i {
						want = right
					}
					expectExpr(t, "a"+x+"b"+y+"c", want)
					expectExpr(t, "a "+x+"\nb "+y+" c", want)
					expectExpr(t, "(a"+x+"b)"+y+"c", left)
					expectExpr(t, "a"+x+"(b"+y+"c)", right)
					expectExpr(t, "(a"+x+"b"+y+"c)", want)
				}
			}
		}
	}
}

// P4.1: signs ahead of an expression bind more tightly than all between two, and less than what stands behind it.
func TestSignsAhead(t *testing.T) {
	a, b := name("a"), name("b")
	for _, u := range []string{"-", "!"} {
		for _, x := range between {
			expectExpr(t, u+"a"+x+"b", binary(unary(u, a), x, b))
			expectExpr(t, "a"+x+u+"b", binary(a, x, unary(u, b)))
			expectExpr(t, u+"a"+x+u+"b", binary(unary(u, a), x, unary(u, b)))
			expectExpr(t, u+"(a"+x+"b)", unary(u, binary(a, x, b)))
			expectExpr(t, "("+u+"a)"+x+"b", binary(unary(u, a), x, b))
		}
		for _, v := range []string{"-", "!"} {
			expectExpr(t, u+v+"a", unary(u, unary(v, a)))
			expectExpr(t, u+v+u+"a[b]", unary(u, unary(v, unary(u, index(a, b)))))
			expectExpr(t, u+"("+v+"a)", unary(u, unary(v, a)))
			expectExpr(t, u+"("+v+"a)[b]", unary(u, index(unary(v, a), b)))
		}
		expectExpr(t, u+"a[b]", unary(u, index(a, b)))
		expectExpr(t, u+"a.b", unary(u, field(a, "b")))
		expectExpr(t, u+"a.b.a[b][a]", unary(u, index(index(field(field(a, "b"), "a"), b), a)))
		expectExpr(t, "("+u+"a)[b]", index(unary(u, a), b))
		expectExpr(t, "("+u+"a).b", field(unary(u, a), "b"))
		expectExpr(t, u+"f(a)", unary(u, call("f", a)))
		expectExpr(t, u+"new P(a).b", unary(u, field(neu("P", a), "b")))
	}
}

// P4.1: an index and a field behind each kind of expression, and any number of them.
func TestParts(t *testing.T) {
	a, b := name("a"), name("b")
	for s, e := range map[string]api.Expr{"a": a, "1": num(1), `"x"`: text("x"), "true": truth(1), "f(a)": call("f", a), "new P(a)": neu("P", a), "[a]": array(a), "(a+b)": binary(a, "+", b), "(-a)": unary("-", a), "a[b]": index(a, b), "a.b": field(a, "b")} {
		expectExpr(t, s+"[b]", index(e, b))
		expectExpr(t, s+".b", field(e, "b"))
		expectExpr(t, s+"[b].b[a]", index(field(index(e, b), "b"), a))
		expectExpr(t, "a+"+s+"[b]", binary(a, "+", index(e, b)))
		expectExpr(t, s+"["+s+"["+s+"]]", index(e, index(e, e)))
		expectExpr(t, s+"[a||b]", index(e, binary(a, "||", b)))
	}
}

// P4.1: of a program each kind of statement, a function without and with parameters and a result, and the order of records and functions.
func TestPrograms(t *testing.T) {
	a, b := name("a"), name("b")
	for s, want := range map[string]api.Stmt{
		"let a = b;":              let("a", b),
		"let a = b == a;":         let("a", binary(b, "==", a)),
		"a = b;":                  set(a, b),
		"(a) = b;":                set(a, b),
		"a[b] = a;":               set(index(a, b), a),
		"a.b = a;":                set(field(a, "b"), a),
		"(-a).b = a;":             set(field(unary("-", a), "b"), a),
		"f()[0].a = [a];":         set(field(index(call("f"), num(0)), "a"), array(a)),
		"a == b;":                 do(binary(a, "==", b)),
		"if a {}":                 cond(a),
		"if a { b; a; }":          cond(a, do(b), do(a)),
		"if a {} else {}":         either(a, nil, nil),
		"if a {b;} else {a;}":     either(a, []api.Stmt{do(b)}, []api.Stmt{do(a)}),
		"if a {if b {}} else {}":  either(a, []api.Stmt{cond(b)}, nil),
		"if a {if b {} else {}}":  cond(a, either(b, nil, nil)),
		"if (a) {}":               cond(a),
		"while a {}":              while(a),
		"while a < b { a = b; }":  while(binary(a, "<", b), set(a, b)),
		"return;":                 back(),
		"return a;":               back(a),
		"return(a);":              back(a),
		"return [a];":             back(array(a)),
		"return -a;":              back(unary("-", a)),
		"a;":                      do(a),
		"f(a);":                   do(call("f", a)),
		"new P(a);":               do(neu("P", a)),
		"true;":                   do(truth(1)),
		"[a][0];":                 do(index(array(a), num(0))),
		"-a;":                     do(unary("-", a)),
		"(a + b).b;":              do(field(binary(a, "+", b), "b")),
		"\"let\";":                do(text("let")),
		"if a { } // else\n":      cond(a),
		"while f(a, b) { f(a); }": while(call("f", a, b), do(call("f", a))),
	} {
		expectProgram(t, "fn f() {"+s+"}", inMain(want))
		expectProgram(t, "fn f() {"+s+s+"b;}", inMain(want, want, do(b)))
		expectProgram(t, "fn f() { if a {"+s+"} else {"+s+s+"} while a {"+s+"} }", inMain(either(a, []api.Stmt{want}, []api.Stmt{want, want}), while(a, want)))
	}
	x, y := api.Param{Name: "x", Type: "int"}, api.Param{Name: "y", Type: "[[int]]"}
	for s, f := range map[string]api.Func{
		"fn f() {}":                             {Name: "f"},
		"fn f(): int {}":                        {Name: "f", Result: "int"},
		"fn f(): [ [ int ] ] {}":                {Name: "f", Result: "[[int]]"},
		"fn f(x: int) {}":                       {Name: "f", Params: []api.Param{x}},
		"fn f(x:int,y:[[int]],x:int):[f]{a;}":   {Name: "f", Params: []api.Param{x, y, x}, Result: "[f]", Body: []api.Stmt{do(a)}},
		"fn f(y: [\n[int // ]\n]\n]): f {b;a;}": {Name: "f", Params: []api.Param{y}, Result: "f", Body: []api.Stmt{do(b), do(a)}},
	} {
		expectProgram(t, s, api.Program{Funcs: []api.Func{f}})
	}
	p, q := api.Record{Name: "P", Fields: []api.Param{x}}, api.Record{Name: "Q", Fields: []api.Param{y, x}}
	f, g := api.Func{Name: "f"}, api.Func{Name: "g"}
	expectProgram(t, "record P { x: int }", api.Program{Records: []api.Record{p}})
	expectProgram(t, "fn f(){}record P{x:int}fn g(){}record Q{y:[[int]],x:int}fn f(){}", api.Program{Records: []api.Record{p, q}, Funcs: []api.Func{f, g, f}})
}

// P4.1: types may be as deep as the text allows, and there may be as many things.
func TestManyThings(t *testing.T) {
	deep := strings.Repeat("[", 2000) + "a" + strings.Repeat("]", 2000)
	p := mustParse(t, "record P{x:"+deep+"}")
	if p.Records[0].Fields[0].Type != deep {
		t.Error("another type")
	}
	if got := len(mustParse(t, strings.Repeat("fn f(){}", 512)).Funcs); got != 512 {
		t.Error(got)
	}
	if got := len(mustParse(t, strings.Repeat("record P{x:P}", 315)).Records); got != 315 {
		t.Error(got)
	}
	if got := len(mustExpr(t, "["+strings.Repeat("1,", 2046)+"1]").Kids); got != 2047 {
		t.Error(got)
	}
	if got := len(mustParse(t, "fn f(){"+strings.Repeat("a;", 2044)+"}").Funcs[0].Body); got != 2044 {
		t.Error(got)
	}
}

// P4.1: lex.Scan's error, at its byte, ahead of what can't go on and of what is too deep.
func TestScanErrors(t *testing.T) {
	for _, c := range []struct {
		s   string
		at  int
		err api.Errno
	}{
		{"#", 0, api.ErrSyntax},
		{"a&b", 1, api.ErrSyntax},
		{") ) #", 4, api.ErrSyntax},
		{"1 + + \"a", 6, api.ErrSyntax},
		{"fn fn 9223372036854775808", 6, api.ErrBig},
		{"1 2 " + strings.Repeat("a", 21), 4, api.ErrBig},
		{"} \"" + strings.Repeat("a", 256) + "\"", 2, api.ErrBig},
		{strings.Repeat("-", 100) + "1 #", 102, api.ErrSyntax},
		{strings.Repeat(" ", 4097), 0, api.ErrBig},
		{strings.Repeat(")", 4097), 0, api.ErrBig},
		{strings.Repeat(" ", 4097) + "#", 0, api.ErrBig},
	} {
		expectExprRefused(t, c.s, c.at, c.err)
		expectRefused(t, c.s, c.at, c.err)
	}
	for _, s := range []string{"fn f() {}", "a"} { // MaxSource bytes, and one more
		full := s + strings.Repeat(" ", 4096-len(s))
		if s == "a" {
			mustExpr(t, full)
		} else {
			mustParse(t, full)
		}
		expectRefused(t, full+" ", 0, api.ErrBig)
		expectExprRefused(t, full+" ", 0, api.ErrBig)
	}
}

// P4.1: the token that can't go on, of an expression; the ^ stands ahead of it.
func TestStuckExprs(t *testing.T) {
	for _, s := range []string{
		"^", "^+", "^*a", "^)", "^]", "^;", "^=", "^,", "^.a", "^{", "^:", "^let", "^if", "^fn", "^return", "^else", "^record", "^while",
		"a ^b", "a ^1", "a ^\"b\"", "a ^\"+\" b", "a ^true", "a ^new", "a ^!b", "a ^= b", "a ^;", "a ^)", "a ^]", "a ^}", "a ^{", "a ^:", "a ^,b", "1 ^2", "1 ^(2)", "1 ^a",
		"a+^", "a+^)", "a+^*b", "a+^+b", "a-^,", "a||^&&b", "-^", "!^", "-^)", "! ^= a", "--^",
		"(^", "(^)", "(a^", "(a^]", "(a^,b)", "(a ^b)", "(a)^)", "(a)^(b)", "((a)^", "(a^=b)",
		"[^", "[^]", "[a^", "[a^)", "[a,^", "[a,^]", "[^,a]", "[a ^b]", "[a^;b]",
		"a[^", "a[^]", "a[b^", "a[b^)", "a[b^,a]", "a[b]^(a)", "a.^", "a.^1", "a.^let", "a.^\"b\"", "a.^(b)", "a.b^(c)", "a.^[b]", "a.^.b", "a.b ^c",
		"f(^", "f(^,", "f(a^", "f(a,^)", "f(a,^,b)", "f(a ^b)", "f(a^]", "f(a)^(b)", "f(^;)", "f()^a", "f(a^;b)",
		"new^", "new ^1", "new ^new", "new ^(", "new int^", "new P^", "new P^[", "new P^.a", "new P(^", "new P(a^", "new P(a,^)", "new P()^(a)", "new ^\"P\"()", "new ^true()",
		"true^(a)", "true ^false", "1 ^new P()", "a.b ^1", "-a ^!b", "\"a\" ^\"b\"",
	} {
		at := strings.Index(s, "^")
		plain := strings.Replace(s, "^", "", 1)
		expectExprRefused(t, plain, at, api.ErrSyntax)
		if at < len(plain) { // what stands further behind has no say, unless it is no token
			expectExprRefused(t, plain+" ) ] 1 2 = fn", at, api.ErrSyntax)
		} else {
			expectExprRefused(t, plain+" // a\n  ", at+8, api.ErrSyntax) // the end is behind all
		}
	}
}

// P4.1: the token that can't go on, of a program.
func TestStuckPrograms(t *testing.T) {
	for _, s := range []string{
		"^a", "^1", "^;", "^{", "^}", "^let a = 1;", "^\"fn\"", "^if", "^else", "^true", "^new",
		"record^", "record ^{", "record ^1", "record ^fn", "record ^record", "record P^", "record P^(", "record P^:", "record P {^", "record P {^}", "record P {^1", "record P {x^", "record P {x^}", "record P {x^,", "record P {x ^int}",
		"record P {x:^", "record P {x:^}", "record P {x:^1", "record P {x:^new", "record P {x:^\"int\"", "record P {x:^,", "record P {x: int^", "record P {x: int^;", "record P {x: int ^y", "record P {x: int,^", "record P {x: int,^}", "record P {x: int,^,", "record P {x: int, y^}", "record P {x: int} ^;", "record P {x: int} ^}", "record P {x: int^)",
		"record P {x:[^", "record P {x:[^]", "record P {x:[int^", "record P {x:[int^}", "record P {x:[[int]^}", "record P {x:[int]^]", "record P {x:int^[", "record P {x:[int^,", "record P {x:[int ^int",
		"fn^", "fn ^(", "fn ^1", "fn ^fn", "fn ^let", "fn f^", "fn f^{", "fn f^:", "fn f(^", "fn f(^,", "fn f(^1", "fn f(x^", "fn f(x^)", "fn f(x^,", "fn f(x:^)", "fn f(x: int^", "fn f(x: int,^)", "fn f(x: int ^y", "fn f(x: int^]", "fn f(^let",
		"fn f()^", "fn f()^;", "fn f()^fn", "fn f()^-", "fn f() ^int {}", "fn f():^", "fn f():^{", "fn f(): int^", "fn f(): int^;", "fn f(): int^:", "fn f(): [int ^{", "fn f(): int ^[", "fn f(): ^\"int\" {}",
		"fn f(){^", "fn f(){^;", "fn f(){^)", "fn f(){^{", "fn f(){^=", "fn f(){^else", "fn f(){^fn", "fn f(){^record", "fn f(){^,", "fn f(){^:", "fn f(){}^}", "fn f(){}^;", "fn f(){} ^a",
		"fn f(){let^", "fn f(){let ^1", "fn f(){let ^=", "fn f(){let ^let", "fn f(){let a^", "fn f(){let a^;", "fn f(){let a^==", "fn f(){let a^:", "fn f(){let a ^b", "fn f(){let a =^", "fn f(){let a =^;", "fn f(){let a = ^=", "fn f(){let a = 1^", "fn f(){let a = 1^}", "fn f(){let a = 1 ^2", "fn f(){let a = 1^= 2", "fn f(){let a = b^= 2", "fn f(){let a^[0] = 1", "fn f(){let a^.b = 1", "fn f(){let ^(a) = 1",
		"fn f(){if^", "fn f(){if ^{", "fn f(){if^;", "fn f(){if a^", "fn f(){if a^;", "fn f(){if a ^b", "fn f(){if a ^else", "fn f(){if a^=", "fn f(){if a {^", "fn f(){if a {^else", "fn f(){if a {}^", "fn f(){if a {} else^", "fn f(){if a {} else ^if b {}", "fn f(){if a {} else ^b;", "fn f(){if a {} else^;", "fn f(){if a {} else {^", "fn f(){if a {} else {} ^else {}", "fn f(){if a {}^;", "fn f(){if a {b^}",
		"fn f(){while^", "fn f(){while ^{", "fn f(){while a^", "fn f(){while a^;", "fn f(){while a {^", "fn f(){while a {} ^else", "fn f(){while a ^b",
		"fn f(){return^", "fn f(){return^}", "fn f(){return ^=", "fn f(){return ^let", "fn f(){return a^", "fn f(){return a^}", "fn f(){return a^= b", "fn f(){return a ^b", "fn f(){return ^return", "fn f(){return ^,", "fn f(){return;^)",
		"fn f(){a^", "fn f(){a^}", "fn f(){a ^b", "fn f(){a^,", "fn f(){a^)", "fn f(){a^:", "fn f(){a =^", "fn f(){a =^;", "fn f(){a = ^= b", "fn f(){a = b^", "fn f(){a = b^}", "fn f(){a = b^= c", "fn f(){a = ^let", "fn f(){a = b ^c", "fn f(){a ^let", "fn f(){a; ^else",
	} {
		at := strings.Index(s, "^")
		plain := strings.Replace(s, "^", "", 1)
		expectRefused(t, plain, at, api.ErrSyntax)
		if at < len(plain) {
			expectRefused(t, plain+" 1 2 = ] fn )", at, api.ErrSyntax)
		} else {
			expectRefused(t, plain+"\n// a", at+5, api.ErrSyntax)
		}
	}
}

// P4.1: a place ahead of = that is none, at the =, whatever stands behind.
func TestNoPlaces(t *testing.T) {
	for _, s := range []string{"1", "true", "\"a\"", "f()", "f(a)", "new P()", "new P(a)", "[a]", "-a", "!a", "-a[0]", "!a.b", "a+b", "a==b", "a[0]+1", "a.b*c.d", "(1)", "(f())", "(a+b)", "((-a))", "f(a)[0]-1"} {
		for _, rest := range []string{"2;}", ";}", "", "=", "}", "1=2;}", ")"} {
			expectRefused(t, "fn f(){"+s+" ="+" "+rest, 8+len(s), api.ErrSyntax)
			expectRefused(t, "fn f(){a; if b { a = 1; "+s+" = "+rest, 25+len(s), api.ErrSyntax)
		}
		expectExprRefused(t, s+" = 1", len(s)+1, api.ErrSyntax)
	}
	for _, s := range []string{"a", "a[0]", "a.b", "f().b", "f()[0]", "new P().b", "[a][0]", "\"a\"[0]", "1 .b", "(-a)[0]", "(a+b).c", "(a)", "((a[0]))", "(a.b)", "true.a"} {
		mustParse(t, "fn f(){"+s+" = 2;}")
		expectRefused(t, "fn f(){"+s+" = ;", 10+len(s), api.ErrSyntax)
		expectExprRefused(t, s+" = 1", len(s)+1, api.ErrSyntax)
	}
}

// P4.1: an expression of depth MaxDepth is read, and one that is one deeper is not; brackets have no say.
func TestDeepExprs(t *testing.T) {
	for what, more := range growers() {
		at, over := nested(24, more), nested(25, more)
		for _, brackets := range []bool{false, true} {
			if got := mustExpr(t, typed(t, at, brackets)); !alike(got, at) {
				t.Errorf("%s: %v", what, got)
			}
			expectExprRefused(t, typed(t, over, brackets), 0, api.ErrDeep)
			expectExprRefused(t, "["+typed(t, at, brackets)+"]", 0, api.ErrDeep)
			expectExprRefused(t, typed(t, over, brackets)+" )", len(typed(t, over, brackets))+1, api.ErrSyntax)
			expectExprRefused(t, typed(t, over, brackets)+" #", len(typed(t, over, brackets))+1, api.ErrSyntax)
		}
	}
	for _, n := range []int{1, 24, 25, 100, 2047} {
		expectExpr(t, strings.Repeat("(", n)+"a"+strings.Repeat(")", n), name("a"))
	}
	expectExprRefused(t, strings.Repeat("(", 4096), 4096, api.ErrSyntax)
	expectExprRefused(t, strings.Repeat("[", 4096), 4096, api.ErrSyntax)
	expectExprRefused(t, strings.Repeat("-", 4095)+"1", 0, api.ErrDeep)
	expectExprRefused(t, strings.Repeat("f(", 1365)+strings.Repeat(")", 1365), 0, api.ErrDeep)
	expectExprRefused(t, "a"+strings.Repeat(".a", 2047), 0, api.ErrDeep)
	expectExprRefused(t, "1"+strings.Repeat("+1", 24), 0, api.ErrDeep)
	expectExpr(t, "1"+strings.Repeat("+1", 23), nestedOnes(24))
}

func nestedOnes(n int) api.Expr {
	e := num(1)
	for range n - 1 {
		e = binary(e, "+", num(1))
	}
	return e
}

// typed tells an expression with brackets about all that has signs, and two more about each kid where they are asked for.
func typed(t *testing.T, e api.Expr, more bool) string {
	t.Helper()
	p := &typist{r: rand.New(rand.NewPCG(4, 1)), loose: more}
	e = copyExpr(e, false)
	p.expr(&e, false)
	return p.b.String()
}

// P4.1: a statement of depth MaxDepth is read, and one that is one deeper is not, in each place of each kind.
func TestDeepStatements(t *testing.T) {
	a := name("a")
	deep := func(n int) api.Expr { return nested(n, func(e api.Expr) api.Expr { return array(e) }) }
	for _, within := range []func(e api.Expr) api.Stmt{
		func(e api.Expr) api.Stmt { return let("a", e) },
		func(e api.Expr) api.Stmt { return set(a, e) },
		func(e api.Expr) api.Stmt { return cond(e) },
		func(e api.Expr) api.Stmt { return either(e, nil, nil) },
		func(e api.Expr) api.Stmt { return while(e) },
		func(e api.Expr) api.Stmt { return back(e) },
		func(e api.Expr) api.Stmt { return do(e) },
	} {
		expectDepths(t, within(deep(23)), within(deep(24)))
		expectDepths(t, cond(a, do(a), within(deep(22))), cond(a, do(a), within(deep(23))))
	}
	expectDepths(t, set(index(deep(22), a), a), set(index(deep(23), a), a))
	expectDepths(t, set(index(a, deep(22)), a), set(index(a, deep(23)), a))
	for _, within := range []func(s ...api.Stmt) api.Stmt{
		func(l ...api.Stmt) api.Stmt { return cond(a, l...) },
		func(l ...api.Stmt) api.Stmt { return while(a, l...) },
		func(l ...api.Stmt) api.Stmt { return either(a, l, nil) },
		func(l ...api.Stmt) api.Stmt { return either(a, nil, l) },
		func(l ...api.Stmt) api.Stmt { return either(a, []api.Stmt{back()}, l) },
	} {
		inner := within() // of depth 2, with its condition
		for range 22 {
			inner = within(do(a), inner, do(a))
		}
		expectDepths(t, inner, within(inner))
		inner = back() // of depth 1
		for range 23 {
			inner = within(inner)
		}
		expectDepths(t, inner, within(inner))
	}
}

// expectDepths holds a statement of depth MaxDepth, and one that is too deep, against what is read and printed of them.
func expectDepths(t *testing.T, most, over api.Stmt) {
	t.Helper()
	a := do(name("a"))
	for _, l := range [][]api.Stmt{{most}, {a, most, a}} {
		expectProgram(t, typedProgram(inMain(l...)), inMain(l...))
		expectProgram(t, mustPrint(t, inMain(l...)), inMain(l...))
	}
	for _, l := range [][]api.Stmt{{over}, {a, over, a}, {most, over}} {
		p := inMain(l...)
		expectRefused(t, typedProgram(p), 0, api.ErrDeep)
		expectUntold(t, p, api.ErrArg)
		s := typedProgram(p)
		expectRefused(t, s+" }", len(s)+1, api.ErrSyntax)
		p.Funcs = slices.Concat(inMain().Funcs, p.Funcs, inMain(a).Funcs)
		expectRefused(t, typedProgram(p), 0, api.ErrDeep)
		expectUntold(t, p, api.ErrArg)
	}
}

func typedProgram(p api.Program) string {
	w := &typist{r: rand.New(rand.NewPCG(4, 2))}
	p = copyProgram(p, false)
	w.program(&p)
	return w.b.String()
}

// P4.1, P4.5: lines are those of the first tokens.
func TestLines(t *testing.T) {
	p := mustParse(t, `
// remark
fn
f
(
)
{
  let
  a
  =
  (
  (
  b
  )
  +
  c
  )
  ;
  (
  a
  )
  [
  0
  ]
  =
  - 
  1;
}
record
P
{
x : int }
`)
	if got := []int{p.Funcs[0].Line, p.Records[0].Line}; !slices.Equal(got, []int{3, 29}) {
		t.Error(got)
	}
	l := p.Funcs[0].Body
	if got := []int{l[0].Line, l[0].E[0].Line, l[0].E[0].Kids[0].Line, l[0].E[0].Kids[1].Line}; !slices.Equal(got, []int{8, 13, 13, 16}) {
		t.Error(got)
	}
	if got := []int{l[1].Line, l[1].E[0].Line, l[1].E[0].Kids[0].Line, l[1].E[0].Kids[1].Line, l[1].E[1].Line, l[1].E[1].Kids[0].Line}; !slices.Equal(got, []int{19, 20, 20, 23, 26, 27}) {
		t.Error(got)
	}
	for s, line := range map[string]int{"\na": 2, "\n(\na)": 3, "(\n\n-\na)": 3, "new\nP()": 1, "\nnew\nP()": 2, "f\n(\na)": 1, "\n[\na]": 2, "a\n.\nb": 1, "(\na)\n.b": 2, "(\na)[\n0]": 2, "(\n(\na)\n+\nb\n)*c": 3, "!\n(\na)": 1, "\n\n1": 3, "\n\"\\n\"": 2, "\ntrue": 2, "\n//\nfalse": 3} {
		if got := mustExpr(t, s).Line; got != line {
			t.Errorf("%q: %d, not %d", s, got, line)
		}
	}
	for s, line := range map[string]int{"\nif a {\n}": 2, "\n\nif a {} else {\n}": 3, "while\na {}": 1, "\nreturn\n;": 2, "return\na;": 1, "\na;": 2, "\n(\na);": 2, "(\na).b\n=\n1;": 1, "\nlet\na = 1;": 2, "\n-\na;": 2, "//\n[\na];": 2} {
		if got := mustParse(t, "fn f() {"+s+"}").Funcs[0].Body[0].Line; got != line {
			t.Errorf("%q: %d, not %d", s, got, line)
		}
	}
}

// P4.1, P4.5: programs in many layouts, with brackets where some are needed and where none are, are read as they are, with all lines.
func TestLayouts(t *testing.T) {
	r := rand.New(rand.NewPCG(4, 3))
	read := 0
	for range 4000 {
		p := copyProgram(someProgram(r), false)
		w := &typist{r: r, loose: r.IntN(2) == 0}
		w.program(&p)
		s := w.b.String()
		if len(s) > 4096 {
			expectRefused(t, s, 0, api.ErrBig)
			continue
		}
		read++
		if got := mustParse(t, s); !reflect.DeepEqual(copyProgram(got, true), p) {
			t.Fatalf("%q: %v, not %v", s, got, p)
		}
		e := copyExpr(someExpr(r, 8), false)
		w = &typist{r: r, loose: r.IntN(2) == 0}
		w.expr(&e, false)
		if s := w.b.String(); len(s) <= 4096 {
			if got := mustExpr(t, s); !reflect.DeepEqual(copyExpr(got, true), e) {
				t.Fatalf("%q: %v, not %v", s, got, e)
			}
		}
	}
	if read < 2000 {
		t.Errorf("only %d of 4000 programs are read", read)
	}
}

// P4.1: each beginning of texts, and each token replaced by each other, left out or put in, is refused where the grammar has it.
func TestGrammar(t *testing.T) {
	g := newGrammar()
	others := strings.Fields(`a 1 "a" "+" fn record let if else while return new true false ( ) { } [ ] , : ; . = == != < <= > >= + - * / % ! && ||`)
	for _, s := range []string{
		"record P { x : int , n : [ [ P ] ] } fn f ( a : int , b : [ int ] ) : [ int ] { let x = - a + b [ 0 ] . c ; }",
		"fn f ( ) { if x > 0 { return x ; } else { f ( x , 1 ) ; } while true { b [ 0 ] = new P ( ) . x ; } return ; }",
		"fn f ( ) { ( a ) = ( ( b . c ) ) ; }",
		"a + ( b * - c ) [ f ( x , [ 1 , \"a\" ] ) ] . d == new P ( 1 , 2 )",
	} {
		l := strings.Split(s, " ")
		for i := range len(l) + 1 {
			g.expectByGrammar(t, strings.Join(l[:i], " "))
			for _, x := range others {
				g.expectByGrammar(t, strings.Join(slices.Concat(l[:i], []string{x}, l[i:]), " "))
				if i < len(l) {
					g.expectByGrammar(t, strings.Join(slices.Concat(l[:i], []string{x}, l[i+1:]), " "))
				}
			}
			if i < len(l) {
				g.expectByGrammar(t, strings.Join(slices.Concat(l[:i], l[i+1:]), " "))
			}
		}
	}
}

// P4.1: many programs of which some tokens were changed are refused where the grammar has it, and else read.
func TestGrammarOfMany(t *testing.T) {
	g := newGrammar()
	r := rand.New(rand.NewPCG(4, 4))
	read, all := 0, 0
	for range 1500 {
		var s string
		if r.IntN(2) == 0 {
			s = typedProgram(someProgram(r))
		} else {
			s = typed(t, someExpr(r, 6), true)
		}
		l, _, err := lex.Scan(s)
		if err != api.OK || len(l) > 200 {
			continue
		}
		var words []string
		for _, tok := range l[:len(l)-1] {
			x, _ := lex.Text(tok)
			words = append(words, x)
		}
		for range r.IntN(3) {
			if len(words) == 0 {
				break
			}
			i, j := r.IntN(len(words)), r.IntN(len(words))
			switch r.IntN(3) {
			case 0:
				words[i], words[j] = words[j], words[i]
			case 1:
				words = slices.Delete(words, i, i+1)
			case 2:
				words = slices.Insert(words, i, words[j])
			}
		}
		all++
		if g.expectByGrammar(t, strings.Join(words, "\n")) {
			read++
		}
	}
	if all < 800 || read < 200 || read > all-200 {
		t.Errorf("%d of %d texts are read", read, all)
	}
}

// P4.1: rows of few tokens, all of them.
func TestGrammarOfFew(t *testing.T) {
	g := newGrammar()
	tokens := strings.Fields(`a 1 "(" fn new ( ) [ ] { } , : ; . = - +`)
	var grow func(l []string)
	grow = func(l []string) {
		g.expectByGrammar(t, strings.Join(l, " "))
		if len(l) == 3 {
			return
		}
		for _, x := range tokens {
			grow(append(slices.Clip(l), x))
		}
	}
	grow(nil)
}

// P4.1: any bytes at all are read or refused, at a byte of the text.
func TestAnyBytes(t *testing.T) {
	r := rand.New(rand.NewPCG(4, 5))
	for range 20000 {
		b := make([]byte, r.IntN(30))
		for i := range b {
			b[i] = "a1\"\\({[]}):;,.=-!+&|<> \nfn"[r.IntN(26)]
			if r.IntN(40) == 0 {
				b[i] = byte(r.IntN(256))
			}
		}
		s := string(b)
		_, want, scan := lex.Scan(s)
		p, at, err := Parse(s)
		if at < 0 || at > len(s) || scan != api.OK && (err != scan || at != want) || err != api.OK && (p.Records != nil || p.Funcs != nil) {
			t.Fatalf("%q: %d at %d", s, err, at)
		}
		e, at, err := Expr(s)
		if at < 0 || at > len(s) || scan != api.OK && (err != scan || at != want) || err != api.OK && e.Kind != 0 {
			t.Fatalf("%q: %d at %d", s, err, at)
		}
	}
}
