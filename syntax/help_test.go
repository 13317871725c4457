package syntax

import (
	"math"
	"math/rand/v2"
	"reflect"
	"slices"
	"strconv"
	"strings"
	"testing"

	"hindcast/api"
	"hindcast/lex"
)

// rows are the signs between two expressions as the chapter has them, those of a later row binding more tightly.
var rows = [][]string{{"||"}, {"&&"}, {"==", "!="}, {"<", "<=", ">", ">="}, {"+", "-"}, {"*", "/", "%"}}

var between = slices.Concat(rows...)

func num(n int) api.Expr                    { return api.Expr{Kind: api.EInt, N: n} }
func truth(n int) api.Expr                  { return api.Expr{Kind: api.EBool, N: n} }
func text(s string) api.Expr                { return api.Expr{Kind: api.EStr, S: s} }
func name(s string) api.Expr                { return api.Expr{Kind: api.EName, S: s} }
func call(s string, l ...api.Expr) api.Expr { return api.Expr{Kind: api.ECall, S: s, Kids: l} }
func neu(s string, l ...api.Expr) api.Expr  { return api.Expr{Kind: api.ENew, S: s, Kids: l} }
func array(l ...api.Expr) api.Expr          { return api.Expr{Kind: api.EArray, Kids: l} }
func unary(s string, x api.Expr) api.Expr {
	return api.Expr{Kind: api.EUnary, S: s, Kids: []api.Expr{x}}
}
func binary(x api.Expr, s string, y api.Expr) api.Expr {
	return api.Expr{Kind: api.EBinary, S: s, Kids: []api.Expr{x, y}}
}
func index(x, y api.Expr) api.Expr { return api.Expr{Kind: api.EIndex, Kids: []api.Expr{x, y}} }
func field(x api.Expr, s string) api.Expr {
	return api.Expr{Kind: api.EField, S: s, Kids: []api.Expr{x}}
}
func let(s string, e api.Expr) api.Stmt { return api.Stmt{Kind: api.SLet, S: s, E: []api.Expr{e}} }
func set(x, y api.Expr) api.Stmt        { return api.Stmt{Kind: api.SSet, E: []api.Expr{x, y}} }
func do(e api.Expr) api.Stmt            { return api.Stmt{Kind: api.SDo, E: []api.Expr{e}} }
func back(l ...api.Expr) api.Stmt       { return api.Stmt{Kind: api.SReturn, E: l} }
func cond(e api.Expr, l ...api.Stmt) api.Stmt {
	return api.Stmt{Kind: api.SIf, E: []api.Expr{e}, Body: l}
}
func while(e api.Expr, l ...api.Stmt) api.Stmt {
	return api.Stmt{Kind: api.SWhile, E: []api.Expr{e}, Body: l}
}
func either(e api.Expr, l, m []api.Stmt) api.Stmt {
	return api.Stmt{Kind: api.SElse, E: []api.Expr{e}, Body: l, Else: m}
}

// inMain tells a program of one function with statements.
func inMain(l ...api.Stmt) api.Program {
	return api.Program{Funcs: []api.Func{{Name: "f", Body: l}}}
}

// each tells a list of what a function makes of each of another's; of none it is nil.
func each[T any](l []T, do func(x T) T) []T {
	var all []T
	for _, x := range l {
		all = append(all, do(x))
	}
	return all
}

// copyExpr, copyStmt and copyProgram copy wholly; where lines is false without them.
func copyExpr(e api.Expr, lines bool) api.Expr {
	if !lines {
		e.Line = 0
	}
	e.Kids = each(e.Kids, func(x api.Expr) api.Expr { return copyExpr(x, lines) })
	return e
}

func copyStmt(s api.Stmt, lines bool) api.Stmt {
	if !lines {
		s.Line = 0
	}
	s.E = each(s.E, func(x api.Expr) api.Expr { return copyExpr(x, lines) })
	s.Body = each(s.Body, func(x api.Stmt) api.Stmt { return copyStmt(x, lines) })
	s.Else = each(s.Else, func(x api.Stmt) api.Stmt { return copyStmt(x, lines) })
	return s
}

func copyProgram(p api.Program, lines bool) api.Program {
	same := func(x api.Param) api.Param { return x }
	p.Records = each(p.Records, func(r api.Record) api.Record {
		if !lines {
			r.Line = 0
		}
		r.Fields = each(r.Fields, same)
		return r
	})
	p.Funcs = each(p.Funcs, func(f api.Func) api.Func {
		if !lines {
			f.Line = 0
		}
		f.Params = each(f.Params, same)
		f.Body = each(f.Body, func(x api.Stmt) api.Stmt { return copyStmt(x, lines) })
		return f
	})
	return p
}

// alike tells whether two are the same but for lines.
func alike(x, y api.Expr) bool { return reflect.DeepEqual(copyExpr(x, false), copyExpr(y, false)) }

func alikePrograms(x, y api.Program) bool {
	return reflect.DeepEqual(copyProgram(x, false), copyProgram(y, false))
}

func mustExpr(t *testing.T, s string) api.Expr {
	t.Helper()
	e, at, err := Expr(s)
	if at != 0 || err != api.OK {
		t.Fatalf("%.200q: %d at %d", s, err, at)
	}
	return e
}

func mustParse(t *testing.T, s string) api.Program {
	t.Helper()
	p, at, err := Parse(s)
	if at != 0 || err != api.OK {
		t.Fatalf("%.200q: %d at %d", s, err, at)
	}
	return p
}

func mustPrint(t *testing.T, p api.Program) string {
	t.Helper()
	s, err := Print(p)
	if err != api.OK {
		t.Fatalf("%v: %d", p, err)
	}
	return s
}

func mustPrintExpr(t *testing.T, e api.Expr) string {
	t.Helper()
	s, err := PrintExpr(e)
	if err != api.OK {
		t.Fatalf("%v: %d", e, err)
	}
	return s
}

// expectExpr holds what is read of a text against an expression, but for lines.
func expectExpr(t *testing.T, s string, want api.Expr) {
	t.Helper()
	if got := mustExpr(t, s); !alike(got, want) {
		t.Errorf("%.200q: %v, not %v", s, got, want)
	}
}

func expectProgram(t *testing.T, s string, want api.Program) {
	t.Helper()
	if got := mustParse(t, s); !alikePrograms(got, want) {
		t.Errorf("%.200q: %v, not %v", s, got, want)
	}
}

func expectExprRefused(t *testing.T, s string, at int, err api.Errno) {
	t.Helper()
	if e, where, why := Expr(s); where != at || why != err || !reflect.DeepEqual(e, api.Expr{}) {
		t.Errorf("%.200q: %v, %d, %d, not nothing, %d, %d", s, e, where, why, at, err)
	}
}

func expectRefused(t *testing.T, s string, at int, err api.Errno) {
	t.Helper()
	if p, where, why := Parse(s); where != at || why != err || !reflect.DeepEqual(p, api.Program{}) {
		t.Errorf("%.200q: %v, %d, %d, not nothing, %d, %d", s, p, where, why, at, err)
	}
}

func expectText(t *testing.T, p api.Program, want string) {
	t.Helper()
	if got := mustPrint(t, p); got != want {
		t.Errorf("%.200q, not %.200q", got, want)
	}
}

func expectExprText(t *testing.T, e api.Expr, want string) {
	t.Helper()
	if got := mustPrintExpr(t, e); got != want {
		t.Errorf("%.200q, not %.200q", got, want)
	}
}

func expectUntold(t *testing.T, p api.Program, err api.Errno) {
	t.Helper()
	if s, why := Print(p); s != "" || why != err {
		t.Errorf("%.200q, %d, not nothing, %d", s, why, err)
	}
}

// expectExprUntold holds an expression against an error, alone and as a kid of others, in statements and within them.
func expectExprUntold(t *testing.T, e api.Expr, err api.Errno) {
	t.Helper()
	if s, why := PrintExpr(e); s != "" || why != err {
		t.Errorf("%.200q, %d, not nothing, %d", s, why, err)
	}
	a := name("a")
	for _, x := range []api.Expr{call("f", a, e), neu("f", e, a), array(a, e), unary("-", e), binary(e, "+", a), binary(a, "+", e), index(e, a), index(a, e), field(e, "a")} {
		if s, why := PrintExpr(x); s != "" || why != err {
			t.Errorf("as a kid: %.200q, %d, not nothing, %d", s, why, err)
		}
	}
	for _, s := range []api.Stmt{let("a", e), set(index(e, a), a), set(a, e), cond(e), while(e), either(e, nil, nil), back(e), do(e)} {
		expectUntold(t, inMain(s), err)
		expectUntold(t, inMain(do(a), cond(a, do(a), s)), err)
		expectUntold(t, inMain(while(a, s)), err)
		expectUntold(t, inMain(either(a, []api.Stmt{s}, nil)), err)
		expectUntold(t, inMain(either(a, nil, []api.Stmt{s})), err)
		two := inMain()
		two.Funcs = append(two.Funcs, inMain(s).Funcs...)
		expectUntold(t, two, err)
	}
}

// nested tells an expression that is so deep, grown by a function that makes it one deeper.
func nested(depth int, more func(e api.Expr) api.Expr) api.Expr {
	e := name("a")
	for range depth - 1 {
		e = more(e)
	}
	return e
}

// growers are all ways in which an expression is a kid.
func growers() map[string]func(e api.Expr) api.Expr {
	a := name("a")
	return map[string]func(e api.Expr) api.Expr{
		"minus":   func(e api.Expr) api.Expr { return unary("-", e) },
		"not":     func(e api.Expr) api.Expr { return unary("!", e) },
		"left":    func(e api.Expr) api.Expr { return binary(e, "+", a) },
		"right":   func(e api.Expr) api.Expr { return binary(a, "+", e) },
		"indexed": func(e api.Expr) api.Expr { return index(e, a) },
		"index":   func(e api.Expr) api.Expr { return index(a, e) },
		"field":   func(e api.Expr) api.Expr { return field(e, "b") },
		"call":    func(e api.Expr) api.Expr { return call("f", a, e, a) },
		"new":     func(e api.Expr) api.Expr { return neu("P", e) },
		"array":   func(e api.Expr) api.Expr { return array(a, e) },
	}
}

func someName(r *rand.Rand) string {
	all := []string{"a", "b", "x1", "_", "int", "len", "Fn", "new_", "true1", strings.Repeat("n", 20)}
	return all[r.IntN(len(all))]
}

func someType(r *rand.Rand) string {
	deep := r.IntN(6) * r.IntN(2)
	return strings.Repeat("[", deep) + someName(r) + strings.Repeat("]", deep)
}

func someList[T any](r *rand.Rand, least, most int, one func() T) []T {
	var l []T
	for range least + r.IntN(most-least+1) {
		l = append(l, one())
	}
	return l
}

func someLeaf(r *rand.Rand) api.Expr {
	switch r.IntN(4) {
	case 0:
		return num([]int{0, 1, 42, math.MaxInt}[r.IntN(4)])
	case 1:
		return truth(r.IntN(2))
	case 2:
		return text([]string{"", "a", "+", "let", "(", "\"\\\n", "// b"}[r.IntN(7)])
	}
	return name(someName(r))
}

// someExpr tells an expression that is at most so deep.
func someExpr(r *rand.Rand, depth int) api.Expr {
	if depth == 1 || r.IntN(6) == 0 {
		return someLeaf(r)
	}
	kid := func() api.Expr { return someExpr(r, depth-1) }
	switch r.IntN(10) {
	case 0:
		return call(someName(r), someList(r, 0, 3, kid)...)
	case 1:
		return neu(someName(r), someList(r, 0, 3, kid)...)
	case 2:
		return array(someList(r, 1, 3, kid)...)
	case 3, 4:
		return unary([]string{"-", "!"}[r.IntN(2)], kid())
	case 5:
		return index(kid(), kid())
	case 6:
		return field(kid(), someName(r))
	}
	return binary(kid(), between[r.IntN(len(between))], kid())
}

// someStmt tells a statement that is at most so deep, 3 at least.
func someStmt(r *rand.Rand, depth int) api.Stmt {
	expr := func() api.Expr { return someExpr(r, min(depth-1, 4)) }
	body := func() []api.Stmt {
		if depth < 4 {
			return nil
		}
		return someList(r, 0, 2, func() api.Stmt { return someStmt(r, depth-1) })
	}
	switch r.IntN(8) {
	case 0:
		return let(someName(r), expr())
	case 1:
		places := []api.Expr{name(someName(r)), index(someLeaf(r), someLeaf(r)), field(someExpr(r, depth-2), someName(r))}
		return set(places[r.IntN(3)], expr())
	case 2:
		return cond(expr(), body()...)
	case 3:
		return either(expr(), body(), body())
	case 4:
		return while(expr(), body()...)
	case 5:
		return back(someList(r, 0, 1, expr)...)
	}
	return do(expr())
}

func someProgram(r *rand.Rand) api.Program {
	param := func() api.Param { return api.Param{Name: someName(r), Type: someType(r)} }
	return api.Program{
		Records: someList(r, 0, 2, func() api.Record { return api.Record{Name: someName(r), Fields: someList(r, 1, 3, param)} }),
		Funcs: someList(r, 0, 3, func() api.Func {
			f := api.Func{Name: someName(r), Params: someList(r, 0, 3, param)}
			if r.IntN(2) == 0 {
				f.Result = someType(r)
			}
			f.Body = someList(r, 0, 4, func() api.Stmt { return someStmt(r, 3+r.IntN(5)) })
			return f
		}),
	}
}

// typist types a program in a layout of chance, with brackets about all that has signs, and some more, and writes into its tree the line in which each first token comes to stand.
type typist struct {
	r     *rand.Rand
	b     strings.Builder
	wait  []*int
	loose bool // brackets also where none are needed
}

func (p *typist) token(s string) {
	p.gap(s[0])
	line := 1 + strings.Count(p.b.String(), "\n")
	for _, w := range p.wait {
		*w = line
	}
	p.wait = nil
	p.b.WriteString(s)
}

// gap puts something between two tokens, or nothing, where they stay two without it.
func (p *typist) gap(next byte) {
	const alone = "()[]{},;"
	s := p.b.String()
	gaps := []string{" ", "\n", "\t", "  ", "\n\n", " // x\n", " //(\n\n"}
	if s == "" || strings.IndexByte(alone, next) >= 0 || strings.IndexByte(alone, s[len(s)-1]) >= 0 {
		gaps = append(gaps, "", "", "", "")
	}
	p.b.WriteString(gaps[p.r.IntN(len(gaps))])
}

func (p *typist) tokens(l ...string) {
	for _, s := range l {
		p.token(s)
	}
}

func (p *typist) exprs(l []api.Expr) {
	for i := range l {
		if i > 0 {
			p.token(",")
		}
		p.expr(&l[i], false)
	}
}

func (p *typist) expr(e *api.Expr, brackets bool) {
	if brackets || p.loose && p.r.IntN(5) == 0 {
		p.token("(")
		p.expr(e, false)
		p.token(")")
		return
	}
	signs := func(k api.Expr) bool { return k.Kind == api.EUnary || k.Kind == api.EBinary }
	switch e.Kind {
	case api.EUnary:
		p.wait = append(p.wait, &e.Line)
		p.token(e.S)
		p.expr(&e.Kids[0], signs(e.Kids[0]))
	case api.EBinary:
		p.expr(&e.Kids[0], signs(e.Kids[0]))
		p.token(e.S)
		p.expr(&e.Kids[1], signs(e.Kids[1]))
		e.Line = e.Kids[0].Line
	case api.EIndex:
		p.expr(&e.Kids[0], signs(e.Kids[0]))
		p.token("[")
		p.expr(&e.Kids[1], false)
		p.token("]")
		e.Line = e.Kids[0].Line
	case api.EField:
		p.expr(&e.Kids[0], signs(e.Kids[0]))
		p.tokens(".", e.S)
		e.Line = e.Kids[0].Line
	default:
		p.wait = append(p.wait, &e.Line)
		p.single(e)
	}
}

func (p *typist) single(e *api.Expr) {
	switch e.Kind {
	case api.EInt:
		p.token(strings.Repeat("0", p.r.IntN(3)) + strconv.Itoa(e.N))
	case api.EBool:
		p.token(strconv.FormatBool(e.N == 1))
	case api.EStr:
		p.token(`"` + strings.NewReplacer(`\`, `\\`, `"`, `\"`, "\n", `\n`).Replace(e.S) + `"`)
	case api.EName:
		p.token(e.S)
	case api.EArray:
		p.token("[")
		p.exprs(e.Kids)
		p.token("]")
	case api.ECall:
		p.tokens(e.S, "(")
		p.exprs(e.Kids)
		p.token(")")
	case api.ENew:
		p.tokens("new", e.S, "(")
		p.exprs(e.Kids)
		p.token(")")
	}
}

func (p *typist) block(l []api.Stmt) {
	p.token("{")
	for i := range l {
		p.stmt(&l[i])
	}
	p.token("}")
}

func (p *typist) stmt(s *api.Stmt) {
	p.wait = append(p.wait, &s.Line)
	switch s.Kind {
	case api.SLet:
		p.tokens("let", s.S, "=")
	case api.SIf, api.SElse:
		p.token("if")
	case api.SWhile:
		p.token("while")
	case api.SReturn:
		p.token("return")
	}
	for i := range s.E {
		if i > 0 {
			p.token("=")
		}
		p.expr(&s.E[i], false)
	}
	switch s.Kind {
	case api.SIf, api.SWhile:
		p.block(s.Body)
	case api.SElse:
		p.block(s.Body)
		p.token("else")
		p.block(s.Else)
	default:
		p.token(";")
	}
}

func (p *typist) params(l []api.Param) {
	for i, x := range l {
		if i > 0 {
			p.token(",")
		}
		p.tokens(x.Name, ":")
		p.typeText(x.Type)
	}
}

func (p *typist) typeText(s string) {
	deep := strings.Count(s, "[")
	for range deep {
		p.token("[")
	}
	p.token(strings.Trim(s, "[]"))
	for range deep {
		p.token("]")
	}
}

// program types records and functions mixed with one another, each in their order.
func (p *typist) program(x *api.Program) {
	records, funcs := 0, 0
	for records < len(x.Records) || funcs < len(x.Funcs) {
		if funcs == len(x.Funcs) || records < len(x.Records) && p.r.IntN(2) == 0 {
			r := &x.Records[records]
			records++
			p.wait = append(p.wait, &r.Line)
			p.tokens("record", r.Name, "{")
			p.params(r.Fields)
			p.token("}")
			continue
		}
		f := &x.Funcs[funcs]
		funcs++
		p.wait = append(p.wait, &f.Line)
		p.tokens("fn", f.Name, "(")
		p.params(f.Params)
		p.token(")")
		if f.Result != "" {
			p.token(":")
			p.typeText(f.Result)
		}
		p.block(f.Body)
	}
}

// chapterGrammar is that of the chapter once more: N a name, 0 a number, T a text.
const chapterGrammar = `
program ->
program -> program record N { params }
program -> program fn N ( ) block
program -> program fn N ( params ) block
program -> program fn N ( ) : type block
program -> program fn N ( params ) : type block
params -> N : type
params -> params , N : type
type -> N
type -> [ type ]
block -> { stmts }
stmts ->
stmts -> stmts stmt
stmt -> let N = expr ;
stmt -> if expr block
stmt -> if expr block else block
stmt -> while expr block
stmt -> return ;
stmt -> return expr ;
stmt -> expr ;
stmt -> place = expr ;
place -> N
place -> post [ expr ]
place -> post . N
place -> ( place )
expr -> ahead
expr -> expr sign ahead
sign -> ||
sign -> &&
sign -> ==
sign -> !=
sign -> <
sign -> <=
sign -> >
sign -> >=
sign -> +
sign -> -
sign -> *
sign -> /
sign -> %
ahead -> - ahead
ahead -> ! ahead
ahead -> post
post -> single
post -> post [ expr ]
post -> post . N
single -> 0
single -> T
single -> true
single -> false
single -> N
single -> N ( )
single -> N ( exprs )
single -> new N ( )
single -> new N ( exprs )
single -> [ exprs ]
single -> ( expr )
exprs -> expr
exprs -> exprs , expr`

type rule struct {
	from string
	to   []string
}

// grammar goes through tokens by all rules at the same time, as Earley's way is, so that it knows of each token whether any text at all goes on with it.
type grammar struct{ rules map[string][]rule }

type item struct {
	rule   *rule
	dot    int
	origin int
}

func newGrammar() *grammar {
	g := &grammar{rules: map[string][]rule{}}
	for _, line := range strings.Split(strings.TrimSpace(chapterGrammar), "\n") {
		from, to, _ := strings.Cut(line, " ->")
		g.rules[from] = append(g.rules[from], rule{from, strings.Fields(to)})
	}
	return g
}

// stuckAt tells the first of tokens that can't go on: -1 if it is none.
func (g *grammar) stuckAt(start string, l []api.Tok) int {
	goal := &rule{"", []string{start, "end"}}
	sets := [][]item{{{goal, 0, 0}}}
	for at, tok := range l {
		g.close(sets)
		var next []item
		for _, x := range sets[at] {
			if x.dot < len(x.rule.to) && x.rule.to[x.dot] == terminal(tok) {
				next = append(next, item{x.rule, x.dot + 1, x.origin})
			}
		}
		if len(next) == 0 {
			return at
		}
		sets = append(sets, next)
	}
	return -1
}

// close puts to the last set all that follows from it.
func (g *grammar) close(sets [][]item) {
	here := len(sets) - 1
	seen := map[item]int{}
	for _, x := range sets[here] {
		seen[x] = 1
	}
	add := func(x item) {
		if seen[x] == 0 {
			seen[x] = 1
			sets[here] = append(sets[here], x)
		}
	}
	for i := 0; i < len(sets[here]); i++ {
		x := sets[here][i]
		if x.dot == len(x.rule.to) {
			for _, y := range sets[x.origin] {
				if y.dot < len(y.rule.to) && y.rule.to[y.dot] == x.rule.from {
					add(item{y.rule, y.dot + 1, y.origin})
				}
			}
			continue
		}
		rules := g.rules[x.rule.to[x.dot]]
		for j := range rules {
			add(item{&rules[j], 0, here})
			if len(rules[j].to) == 0 {
				add(item{x.rule, x.dot + 1, x.origin})
			}
		}
	}
}

func terminal(t api.Tok) string {
	switch t.Kind {
	case api.TEnd:
		return "end"
	case api.TName:
		return "N"
	case api.TInt:
		return "0"
	case api.TStr:
		return "T"
	}
	return t.S
}

// expectByGrammar holds whether and where a text is refused against the grammar, as a program and as an expression, and tells whether it is one of the two.
func (g *grammar) expectByGrammar(t *testing.T, s string) bool {
	t.Helper()
	l, _, err := lex.Scan(s)
	if err != api.OK {
		t.Fatalf("%q: %d", s, err)
	}
	hold := func(start string, at int, err api.Errno) bool {
		t.Helper()
		want := g.stuckAt(start, l)
		switch {
		case want >= 0 && (err != api.ErrSyntax || at != l[want].At):
			t.Errorf("%s %q: %d at %d, not ErrSyntax at %d", start, s, err, at, l[want].At)
		case want < 0 && (err != api.OK && err != api.ErrDeep || at != 0):
			t.Errorf("%s %q: %d at %d, not read", start, s, err, at)
		}
		return want < 0
	}
	_, at, err := Parse(s)
	isProgram := hold("program", at, err)
	_, at, err = Expr(s)
	isExpr := hold("expr", at, err)
	return isProgram || isExpr
}
