package types

import (
	"math/rand/v2"
	"reflect"
	"slices"
	"strings"
	"testing"

	"hindcast/api"
	"hindcast/syntax"
)

func parse(t *testing.T, s string) api.Program {
	t.Helper()
	p, at, err := syntax.Parse(s)
	if err != api.OK {
		t.Fatalf("%s: error %d at %d", s, err, at)
	}
	return p
}

func expr(t *testing.T, s string) api.Expr {
	t.Helper()
	e, at, err := syntax.Expr(s)
	if err != api.OK {
		t.Fatalf("%s: error %d at %d", s, err, at)
	}
	return e
}

func param(name, of string) api.Param { return api.Param{Name: name, Type: of} }

// each tells a list of what a function makes of each of another's, with room behind its end that holds a mark.
func each[T any](l []T, mark T, do func(x T) T) []T {
	all := make([]T, 0, len(l)+1)
	for _, x := range l {
		all = append(all, do(x))
	}
	return append(all, mark)[:len(l)]
}

// relined copies a program wholly, each line as a function tells it of the one that was.
type relined struct{ line func(int) int }

func (r relined) expr(e api.Expr) api.Expr {
	e.Line = r.line(e.Line)
	e.Kids = each(e.Kids, api.Expr{S: "behind"}, r.expr)
	return e
}

func (r relined) stmt(s api.Stmt) api.Stmt {
	s.Line = r.line(s.Line)
	s.E = each(s.E, api.Expr{S: "behind"}, r.expr)
	s.Body = each(s.Body, api.Stmt{S: "behind"}, r.stmt)
	s.Else = each(s.Else, api.Stmt{S: "behind"}, r.stmt)
	return s
}

func (r relined) params(l []api.Param) []api.Param {
	return each(l, param("behind", "behind"), func(v api.Param) api.Param { return v })
}

func (r relined) record(x api.Record) api.Record {
	x.Line = r.line(x.Line)
	x.Fields = r.params(x.Fields)
	return x
}

func (r relined) function(f api.Func) api.Func {
	f.Line = r.line(f.Line)
	f.Params = r.params(f.Params)
	f.Body = each(f.Body, api.Stmt{S: "behind"}, r.stmt)
	return f
}

func (r relined) program(p api.Program) api.Program {
	return api.Program{
		Records: each(p.Records, api.Record{Name: "behind"}, r.record),
		Funcs:   each(p.Funcs, api.Func{Name: "behind"}, r.function),
	}
}

func same(n int) int { return n }

// scattered gives each part of a program a line of its own, none of them 0, some of them below it, in no order that could be guessed.
func scattered(p api.Program) api.Program {
	n := 0
	return relined{func(int) int { n++; return (n*7919)%10007*2 - 9999 }}.program(p)
}

// toldAt tells which part of a program has a line: "record P", "fn f", a statement with its ; (an if, a while up to its block), an expression.
func toldAt(p api.Program, line int) string {
	for _, r := range p.Records {
		if r.Line == line {
			return "record " + r.Name
		}
	}
	for _, f := range p.Funcs {
		if f.Line == line {
			return "fn " + f.Name
		}
		if s := toldInRow(f.Body, line); s != "" {
			return s
		}
	}
	return ""
}

func toldInRow(l []api.Stmt, line int) string {
	for _, s := range l {
		if s.Line == line {
			return headOf(s)
		}
		for _, e := range s.E {
			if x := toldInExpr(e, line); x != "" {
				return x
			}
		}
		if x := toldInRow(s.Body, line) + toldInRow(s.Else, line); x != "" {
			return x
		}
	}
	return ""
}

func toldInExpr(e api.Expr, line int) string {
	if e.Line == line {
		s, _ := syntax.PrintExpr(e)
		return s
	}
	for _, k := range e.Kids {
		if s := toldInExpr(k, line); s != "" {
			return s
		}
	}
	return ""
}

func headOf(s api.Stmt) string {
	text, _ := syntax.Print(api.Program{Funcs: []api.Func{{Name: "f", Body: []api.Stmt{s}}}})
	head, _, _ := strings.Cut(strings.TrimPrefix(text, "fn f() {\n"), "\n")
	return strings.TrimSuffix(head, " {")
}

// checkCopy asks for Check of a copy, and that nothing of that is changed, nor what stands behind its lists' ends.
func checkCopy(t *testing.T, p api.Program) (int, api.Errno) {
	t.Helper()
	c, d := relined{same}.program(p), relined{same}.program(p)
	line, err := Check(c)
	if !reflect.DeepEqual(whole(c), whole(d)) {
		t.Fatal("Check has changed its argument")
	}
	return line, err
}

func ofCopy(t *testing.T, p api.Program, vars []api.Param, e api.Expr) (string, int, api.Errno) {
	t.Helper()
	r := relined{same}
	p1, v1, e1 := r.program(p), r.params(vars), r.expr(e)
	p2, v2, e2 := r.program(p), r.params(vars), r.expr(e)
	s, line, err := Of(p1, v1, e1)
	if !reflect.DeepEqual(whole(p1), whole(p2)) || !reflect.DeepEqual(v1[:cap(v1)], v2[:cap(v2)]) || !reflect.DeepEqual(wholeExpr(e1), wholeExpr(e2)) {
		t.Fatal("Of has changed its argument")
	}
	return s, line, err
}

// whole tells a program with what stands behind its lists' ends.
func whole(p api.Program) api.Program {
	p.Records = slices.Clone(p.Records[:cap(p.Records)])
	for i, r := range p.Records {
		p.Records[i].Fields = r.Fields[:cap(r.Fields)]
	}
	p.Funcs = slices.Clone(p.Funcs[:cap(p.Funcs)])
	for i, f := range p.Funcs {
		p.Funcs[i].Params = f.Params[:cap(f.Params)]
		p.Funcs[i].Body = wholeRow(f.Body)
	}
	return p
}

func wholeRow(l []api.Stmt) []api.Stmt {
	l = slices.Clone(l[:cap(l)])
	for i, s := range l {
		l[i].E = wholeExprs(s.E)
		l[i].Body = wholeRow(s.Body)
		l[i].Else = wholeRow(s.Else)
	}
	return l
}

func wholeExprs(l []api.Expr) []api.Expr {
	l = slices.Clone(l[:cap(l)])
	for i, e := range l {
		l[i] = wholeExpr(e)
	}
	return l
}

func wholeExpr(e api.Expr) api.Expr {
	e.Kids = wholeExprs(e.Kids)
	return e
}

// judge is the chapter's rules gone through another way: what is wrong is handed back, and variables stand in a list, the last one the innermost.
type judge struct {
	p    api.Program
	vars []api.Param
}

// verdict is what is wrong, where, and by which of the chapter's rules.
type verdict struct {
	line int
	why  api.Errno
	rule string
}

var fine = verdict{}

func name(line int, rule string) verdict  { return verdict{line, api.ErrName, rule} }
func kind(line int, rule string) verdict  { return verdict{line, api.ErrType, rule} }
func large(line int, rule string) verdict { return verdict{line, api.ErrBig, rule} }

// signs are all that may stand: the first kid's type, the sign, the second kid's, and what that comes to.
const signs = `
int + int int	str + str str	int - int int	int * int int	int / int int	int % int int
int < int bool	int <= int bool	int > int bool	int >= int bool
str < str bool	str <= str bool	str > str bool	str >= str bool
int == int bool	bool == bool bool	str == str bool	int != int bool	bool != bool bool	str != str bool
bool && bool bool	bool || bool bool
`

func signType(a, sign, b string) string {
	for _, r := range strings.FieldsFunc(signs, func(c rune) bool { return c == '\n' || c == '\t' }) {
		if f := strings.Fields(r); f[0] == a && f[1] == sign && f[2] == b {
			return f[3]
		}
	}
	return ""
}

func (j judge) types(l []api.Expr) ([]string, verdict) {
	var all []string
	for _, e := range l {
		t, bad := j.typ(e)
		if bad != fine {
			return nil, bad
		}
		all = append(all, t)
	}
	return all, fine
}

func (j judge) typ(e api.Expr) (string, verdict) {
	switch e.Kind {
	case api.EInt:
		return "int", fine
	case api.EBool:
		return "bool", fine
	case api.EStr:
		return "str", fine
	case api.EName:
		for i := len(j.vars) - 1; i >= 0; i-- {
			if j.vars[i].Name == e.S {
				return j.vars[i].Type, fine
			}
		}
		return "", name(e.Line, "no variable")
	case api.ECall:
		return j.call(e)
	case api.ENew:
		i := slices.IndexFunc(j.p.Records, func(r api.Record) bool { return r.Name == e.S })
		if i < 0 {
			return "", name(e.Line, "new: no record")
		}
		return e.S, j.kids(e, j.p.Records[i].Fields, "new")
	}
	l, bad := j.types(e.Kids)
	if bad != fine {
		return "", bad
	}
	t := ""
	switch e.Kind {
	case api.EUnary:
		if e.S+l[0] == "-int" || e.S+l[0] == "!bool" {
			t = l[0]
		}
	case api.EBinary:
		t = signType(l[0], e.S, l[1])
	case api.EIndex:
		if strings.HasPrefix(l[0], "[") && strings.HasSuffix(l[0], "]") && l[1] == "int" {
			t = l[0][1 : len(l[0])-1]
		}
	case api.EField:
		i := slices.IndexFunc(j.p.Records, func(r api.Record) bool { return r.Name == l[0] })
		if i < 0 {
			return "", kind(e.Line, "field: no record")
		}
		f := slices.IndexFunc(j.p.Records[i].Fields, func(v api.Param) bool { return v.Name == e.S })
		if f < 0 {
			return "", name(e.Line, "no field")
		}
		return j.p.Records[i].Fields[f].Type, fine
	case api.EArray:
		if slices.Sort(l); l[0] != "" && l[0] == l[len(l)-1] {
			t = "[" + l[0] + "]"
		}
	}
	if t == "" {
		return "", kind(e.Line, [...]string{api.EUnary: "unary", api.EBinary: "binary", api.EIndex: "index", api.EArray: "array"}[e.Kind])
	}
	return t, fine
}

func (j judge) kids(e api.Expr, want []api.Param, rule string) verdict {
	if len(e.Kids) < len(want) {
		return kind(e.Line, rule+": too few")
	}
	if len(e.Kids) > len(want) {
		return kind(e.Line, rule+": too many")
	}
	for i, k := range e.Kids {
		t, bad := j.typ(k)
		if bad != fine {
			return bad
		}
		if t == "" {
			return kind(e.Line, rule+": a kid without a type")
		}
		if t != want[i].Type && !slices.Contains(strings.Split(want[i].Type, "|"), t) && want[i].Type != "any" && !(t[0] == '[' && t[len(t)-1] == ']' && want[i].Type == "str|array") {
			return kind(e.Line, rule+": a kid of another type")
		}
	}
	return fine
}

func (j judge) call(e api.Expr) (string, verdict) {
	if i := slices.IndexFunc(j.p.Funcs, func(f api.Func) bool { return f.Name == e.S }); i >= 0 {
		f := j.p.Funcs[i]
		bad := j.kids(e, f.Params, "call")
		return f.Result, bad
	}
	switch e.S {
	case "len":
		return "int", j.kids(e, []api.Param{{Type: "str|array"}}, "len")
	case "str":
		return "str", j.kids(e, []api.Param{{Type: "int|bool|str"}}, "str")
	case "input":
		return "int", j.kids(e, nil, "input")
	case "array":
		if bad := j.kids(e, []api.Param{{Type: "int"}, {Type: "any"}}, "array()"); bad != fine {
			return "", bad
		}
		t, _ := j.typ(e.Kids[1])
		return "[" + t + "]", fine
	case "print":
		want := []api.Param{{Type: "any"}}
		for len(want) < len(e.Kids) {
			want = append(want, want[0])
		}
		return "", j.kids(e, want, "print")
	}
	return "", name(e.Line, "no function")
}

func isOneOf(s string, l ...string) bool { return slices.Contains(l, s) }

func (j judge) isType(t string, records []api.Record) bool {
	t = strings.Trim(t, "[]")
	return isOneOf(t, "int", "bool", "str") || slices.ContainsFunc(records, func(r api.Record) bool { return r.Name == t })
}

func twice(l []api.Param) bool {
	for i, v := range l {
		for _, w := range l[:i] {
			if v.Name == w.Name {
				return true
			}
		}
	}
	return false
}

func (j judge) program() verdict {
	for _, part := range []func() verdict{j.records, j.fields, j.funcs, j.main} {
		if bad := part(); bad != fine {
			return bad
		}
	}
	for _, f := range j.p.Funcs {
		j.vars = slices.Clone(f.Params)
		names := slices.Clone(f.Params)
		if bad := j.row(f, f.Body, &names); bad != fine {
			return bad
		}
		if f.Result != "" && !ending(f.Body) {
			return kind(f.Line, "does not end")
		}
	}
	return fine
}

func (j judge) records() verdict {
	for i, r := range j.p.Records {
		switch {
		case i == 16:
			return large(r.Line, "17th record")
		case isOneOf(r.Name, "int", "bool", "str"):
			return name(r.Line, "a record named as a type")
		case j.isType(r.Name, j.p.Records[:i]):
			return name(r.Line, "a record twice")
		case len(r.Fields) > 8:
			return large(r.Line, "9 fields")
		case twice(r.Fields):
			return name(r.Line, "a field twice")
		}
	}
	return fine
}

func (j judge) fields() verdict {
	for _, r := range j.p.Records {
		for _, f := range r.Fields {
			if !j.isType(f.Type, j.p.Records) {
				return kind(r.Line, "a field's type")
			}
		}
	}
	return fine
}

func (j judge) funcs() verdict {
	for i, f := range j.p.Funcs {
		switch {
		case i == 32:
			return large(f.Line, "33rd function")
		case isOneOf(f.Name, "len", "str", "array", "input", "print"):
			return name(f.Line, "a function named as one built in")
		case j.isType(f.Name, j.p.Records):
			return name(f.Line, "a function named as a type")
		case slices.ContainsFunc(j.p.Funcs[:i], func(g api.Func) bool { return f.Name == g.Name }):
			return name(f.Line, "a function twice")
		case len(f.Params) > 8:
			return large(f.Line, "9 parameters")
		case twice(f.Params):
			return name(f.Line, "a parameter twice")
		case slices.ContainsFunc(f.Params, func(v api.Param) bool { return !j.isType(v.Type, j.p.Records) }):
			return kind(f.Line, "a parameter's type")
		case f.Result != "" && !j.isType(f.Result, j.p.Records):
			return kind(f.Line, "a result's type")
		}
	}
	return fine
}

func (j judge) main() verdict {
	for _, f := range j.p.Funcs {
		if f.Name == "main" && len(f.Params) == 0 && f.Result == "" {
			return fine
		}
	}
	return name(0, "no main")
}

func (j judge) row(f api.Func, l []api.Stmt, names *[]api.Param) verdict {
	for _, s := range l {
		if bad := j.stmt(f, s, names); bad != fine {
			return bad
		}
		if s.Kind == api.SLet {
			j.vars = append(slices.Clone(j.vars), (*names)[len(*names)-1])
		}
	}
	return fine
}

func (j judge) stmt(f api.Func, s api.Stmt, names *[]api.Param) verdict {
	if s.Kind == api.SDo && s.E[0].Kind != api.ECall {
		return kind(s.Line, "no call alone")
	}
	if s.Kind == api.SReturn && f.Result == "" && len(s.E) > 0 {
		return kind(s.Line, "return with")
	}
	if s.Kind == api.SReturn && f.Result != "" && len(s.E) == 0 {
		return kind(s.Line, "return without")
	}
	l, bad := j.types(s.E)
	if bad != fine {
		return bad
	}
	switch s.Kind {
	case api.SLet:
		switch {
		case l[0] == "":
			return kind(s.Line, "let without a type")
		case twice(append(slices.Clone(*names), param(s.S, ""))):
			return name(s.Line, "a let twice")
		case len(*names) == 32:
			return large(s.Line, "33rd name")
		}
		*names = append(*names, param(s.S, l[0]))
	case api.SSet:
		if l[0] != l[1] {
			return kind(s.Line, "set")
		}
	case api.SReturn:
		if len(l) == 1 && l[0] != f.Result {
			return kind(s.Line, "return of another type")
		}
	case api.SIf, api.SElse, api.SWhile:
		if l[0] != "bool" {
			return kind(s.Line, "condition")
		}
		if bad := j.row(f, s.Body, names); bad != fine {
			return bad
		}
		return j.row(f, s.Else, names)
	}
	return fine
}

func ending(l []api.Stmt) bool {
	if len(l) == 0 {
		return false
	}
	s := l[len(l)-1]
	return s.Kind == api.SReturn || s.Kind == api.SElse && ending(s.Body) && ending(s.Else)
}

// maker makes programs that are well-typed.
type maker struct {
	*rand.Rand
	p     api.Program
	f     api.Func
	vars  []api.Param
	named int
}

func pick[T any](r *rand.Rand, l []T) T { return l[r.IntN(len(l))] }

var someTypes = []string{"int", "int", "bool", "bool", "str", "str", "[int]", "[[int]]", "[str]", "P", "[P]", "Q"}

func newMaker(seed uint64) *maker {
	m := &maker{Rand: rand.New(rand.NewPCG(seed, 5))}
	m.p.Records = []api.Record{
		{Name: "P", Fields: []api.Param{param("x", "int"), param("q", "[P]"), param("s", "str")}},
		{Name: "Q", Fields: []api.Param{param("p", "P"), param("b", "bool"), param("l", "[[int]]")}},
	}
	m.p.Funcs = []api.Func{
		{Name: "f", Params: []api.Param{param("a", "int"), param("b", "P")}, Result: pick(m.Rand, someTypes)},
		{Name: "g", Params: []api.Param{param("a", pick(m.Rand, someTypes))}, Result: pick(m.Rand, someTypes)},
		{Name: "main"},
		{Name: "h", Params: []api.Param{param("c", "str"), param("d", pick(m.Rand, someTypes))}},
		{Name: "i"},
		{Name: "p", Result: "P"},
	}
	m.Shuffle(len(m.p.Funcs), func(i, k int) { m.p.Funcs[i], m.p.Funcs[k] = m.p.Funcs[k], m.p.Funcs[i] })
	return m
}

func (m *maker) program() api.Program {
	for i, f := range m.p.Funcs {
		m.f, m.named, m.vars = f, len(f.Params), slices.Clone(f.Params)
		m.p.Funcs[i].Body = m.row(3, f.Result != "")
	}
	return scattered(m.p)
}

// row makes statements; where they must end, they do.
func (m *maker) row(depth int, ends bool) []api.Stmt {
	there := len(m.vars)
	var l []api.Stmt
	for range m.IntN(4) {
		l = append(l, m.stmt(depth))
	}
	switch {
	case ends && depth > 1 && m.IntN(2) == 0:
		l = append(l, api.Stmt{Kind: api.SElse, E: []api.Expr{m.expr("bool", 2)}, Body: m.row(depth-1, true), Else: m.row(depth-1, true)})
	case ends || m.IntN(8) == 0:
		l = append(l, m.back())
	}
	m.vars = m.vars[:there]
	return l
}

func (m *maker) back() api.Stmt {
	if m.f.Result == "" {
		return api.Stmt{Kind: api.SReturn}
	}
	return api.Stmt{Kind: api.SReturn, E: []api.Expr{m.expr(m.f.Result, 2)}}
}

func (m *maker) stmt(depth int) api.Stmt {
	n := m.IntN(9)
	if depth == 1 && n >= 6 {
		n -= 3
	}
	switch {
	case n < 3 && m.named < 32:
		t := pick(m.Rand, someTypes)
		s := api.Stmt{Kind: api.SLet, S: "v" + string(rune('A'+m.named)), E: []api.Expr{m.expr(t, 3)}}
		m.named++
		m.vars = append(m.vars, param(s.S, t))
		return s
	case n < 4:
		t := pick(m.Rand, someTypes)
		return api.Stmt{Kind: api.SSet, E: []api.Expr{m.place(t), m.expr(t, 2)}}
	case n < 6:
		return api.Stmt{Kind: api.SDo, E: []api.Expr{m.callAlone()}}
	case n == 6:
		return api.Stmt{Kind: api.SIf, E: []api.Expr{m.expr("bool", 3)}, Body: m.row(depth-1, false)}
	case n == 7:
		return api.Stmt{Kind: api.SElse, E: []api.Expr{m.expr("bool", 3)}, Body: m.row(depth-1, false), Else: m.row(depth-1, false)}
	}
	return api.Stmt{Kind: api.SWhile, E: []api.Expr{m.expr("bool", 3)}, Body: m.row(depth-1, false)}
}

func (m *maker) place(t string) api.Expr {
	if v := m.variable(t); v.S != "" && m.IntN(2) == 0 {
		return v
	}
	return api.Expr{Kind: api.EIndex, Kids: []api.Expr{m.expr("["+t+"]", 2), m.expr("int", 2)}}
}

// variable makes a name of a type, or nothing.
func (m *maker) variable(t string) api.Expr {
	for _, i := range m.Perm(len(m.vars)) {
		if m.vars[i].Type == t {
			return api.Expr{Kind: api.EName, S: m.vars[i].Name}
		}
	}
	return api.Expr{}
}

func (m *maker) callAlone() api.Expr {
	e := api.Expr{Kind: api.ECall, S: "print"}
	if m.IntN(2) == 0 {
		f := pick(m.Rand, m.p.Funcs)
		e.S = f.Name
		for _, v := range f.Params {
			e.Kids = append(e.Kids, m.expr(v.Type, 2))
		}
		return e
	}
	for range 1 + m.IntN(3) {
		e.Kids = append(e.Kids, m.expr(pick(m.Rand, someTypes), 2))
	}
	return e
}

// expr makes an expression of a type that is about so deep.
func (m *maker) expr(t string, depth int) api.Expr {
	for range 20 {
		if e := m.attempt(t, depth); e.Kind != 0 {
			return e
		}
	}
	return m.plain(t)
}

func (m *maker) plain(t string) api.Expr {
	switch t {
	case "int":
		return api.Expr{Kind: api.EInt, N: m.IntN(3)}
	case "bool":
		return api.Expr{Kind: api.EBool, N: m.IntN(2)}
	case "str":
		return api.Expr{Kind: api.EStr, S: "s"}
	case "P": // a P is made of others alone
		return api.Expr{Kind: api.ECall, S: "p"}
	case "Q":
		return api.Expr{Kind: api.ENew, S: "Q", Kids: []api.Expr{m.plain("P"), m.plain("bool"), m.plain("[[int]]")}}
	}
	return api.Expr{Kind: api.EArray, Kids: []api.Expr{m.plain(t[1 : len(t)-1])}}
}

// attempt makes an expression of a type in some way, or nothing, if that way leads to none.
func (m *maker) attempt(t string, depth int) api.Expr {
	if depth <= 1 && m.IntN(2) == 0 {
		return m.plain(t)
	}
	if depth <= 0 {
		return m.variable(t)
	}
	kid := func(t string) api.Expr { return m.expr(t, depth-1) }
	switch m.IntN(8) {
	case 0, 1:
		return m.variable(t)
	case 2:
		return api.Expr{Kind: api.EIndex, Kids: []api.Expr{kid("[" + t + "]"), kid("int")}}
	case 3:
		r := pick(m.Rand, m.p.Records)
		for _, f := range r.Fields {
			if f.Type == t {
				return api.Expr{Kind: api.EField, S: f.Name, Kids: []api.Expr{kid(r.Name)}}
			}
		}
	case 4:
		f := pick(m.Rand, m.p.Funcs)
		if f.Result != t {
			return api.Expr{}
		}
		e := api.Expr{Kind: api.ECall, S: f.Name}
		for _, v := range f.Params {
			e.Kids = append(e.Kids, kid(v.Type))
		}
		return e
	case 5:
		return m.builtin(t, kid)
	case 6:
		return m.signed(t, kid)
	case 7:
		return m.listed(t, kid)
	}
	return api.Expr{}
}

func (m *maker) builtin(t string, kid func(string) api.Expr) api.Expr {
	switch {
	case t == "int" && m.IntN(3) == 0:
		return api.Expr{Kind: api.ECall, S: "input"}
	case t == "int":
		return api.Expr{Kind: api.ECall, S: "len", Kids: []api.Expr{kid(pick(m.Rand, []string{"str", "[int]", "[P]"}))}}
	case t == "str":
		return api.Expr{Kind: api.ECall, S: "str", Kids: []api.Expr{kid(pick(m.Rand, []string{"str", "int", "bool"}))}}
	case t[0] == '[':
		return api.Expr{Kind: api.ECall, S: "array", Kids: []api.Expr{kid("int"), kid(t[1 : len(t)-1])}}
	}
	return api.Expr{}
}

func (m *maker) signed(t string, kid func(string) api.Expr) api.Expr {
	if m.IntN(4) == 0 && (t == "int" || t == "bool") {
		return api.Expr{Kind: api.EUnary, S: map[string]string{"int": "-", "bool": "!"}[t], Kids: []api.Expr{kid(t)}}
	}
	var all [][]string
	for _, r := range strings.FieldsFunc(signs, func(c rune) bool { return c == '\n' || c == '\t' }) {
		if f := strings.Fields(r); f[3] == t {
			all = append(all, f)
		}
	}
	if len(all) == 0 {
		return api.Expr{}
	}
	f := pick(m.Rand, all)
	return api.Expr{Kind: api.EBinary, S: f[1], Kids: []api.Expr{kid(f[0]), kid(f[2])}}
}

func (m *maker) listed(t string, kid func(string) api.Expr) api.Expr {
	e := api.Expr{Kind: api.EArray}
	if t[0] == '[' {
		for range 1 + m.IntN(3) {
			e.Kids = append(e.Kids, kid(t[1:len(t)-1]))
		}
		return e
	}
	for _, r := range m.p.Records {
		if r.Name == t {
			e = api.Expr{Kind: api.ENew, S: t}
			for _, f := range r.Fields {
				e.Kids = append(e.Kids, kid(f.Type))
			}
			return e
		}
	}
	return api.Expr{}
}
