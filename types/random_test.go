package types

import (
	"maps"
	"math/rand/v2"
	"slices"
	"strconv"
	"testing"

	"hindcast/api"
	"hindcast/syntax"
)

// parts are what a program is made of, where it stands.
type parts struct {
	exprs []*api.Expr
	stmts []*api.Stmt
	rows  []*[]api.Stmt
	names []*[]api.Param
	types []*string
}

func partsOf(p *api.Program) *parts {
	all := &parts{}
	for i := range p.Records {
		all.params(&p.Records[i].Fields)
	}
	for i := range p.Funcs {
		f := &p.Funcs[i]
		all.params(&f.Params)
		all.types = append(all.types, &f.Result)
		all.row(&f.Body)
	}
	return all
}

func (a *parts) params(l *[]api.Param) {
	a.names = append(a.names, l)
	for i := range *l {
		a.types = append(a.types, &(*l)[i].Type)
	}
}

func (a *parts) row(l *[]api.Stmt) {
	a.rows = append(a.rows, l)
	for i := range *l {
		s := &(*l)[i]
		a.stmts = append(a.stmts, s)
		for k := range s.E {
			a.expr(&s.E[k])
		}
		if s.Kind == api.SIf || s.Kind == api.SElse || s.Kind == api.SWhile {
			a.row(&s.Body)
		}
		if s.Kind == api.SElse {
			a.row(&s.Else)
		}
	}
}

func (a *parts) expr(e *api.Expr) {
	a.exprs = append(a.exprs, e)
	for i := range e.Kids {
		a.expr(&e.Kids[i])
	}
}

// others are expressions that may stand in another one's place.
func others(r *rand.Rand, a *parts) api.Expr {
	some := []api.Expr{
		{Kind: api.EInt, N: 1}, {Kind: api.EBool, N: 1}, {Kind: api.EStr, S: "t"}, {Kind: api.EName, S: "zz"},
		{Kind: api.ECall, S: "i"}, {Kind: api.ECall, S: "input"}, {Kind: api.ECall, S: "nobody"},
		{Kind: api.ECall, S: "print", Kids: []api.Expr{{Kind: api.EInt}}}, {Kind: api.ECall, S: "len", Kids: []api.Expr{{Kind: api.EInt}}},
		{Kind: api.EArray, Kids: []api.Expr{{Kind: api.EInt}}}, {Kind: api.ENew, S: "Nothing"}, {Kind: api.ENew, S: "P"},
		{Kind: api.ECall, S: "str", Kids: []api.Expr{{Kind: api.ECall, S: "i"}}}, {Kind: api.ECall, S: "len", Kids: []api.Expr{{Kind: api.ECall, S: "i"}}},
		{Kind: api.EField, S: "zz", Kids: []api.Expr{{Kind: api.ECall, S: "p"}}},
		{Kind: api.EField, S: "x", Kids: []api.Expr{{Kind: api.ECall, S: "p"}}},
	}
	if len(a.exprs) > 0 && r.IntN(2) == 0 {
		return relined{same}.expr(*pick(r, a.exprs))
	}
	return pick(r, some)
}

var someNames = []string{"f", "g", "h", "i", "p", "main", "P", "Q", "int", "str", "bool", "len", "array", "print", "a", "b", "c", "x", "q", "vA", "vB", "vC", "zz"}

// spoil changes something in a program; it need not be wrong behind that.
func spoil(r *rand.Rand, p *api.Program) {
	a := partsOf(p)
	switch n := r.IntN(20); {
	case n < 9 && len(a.exprs) > 0:
		spoilExpr(r, a)
	case n < 12 && len(a.stmts) > 0:
		spoilStmt(r, a)
	case n < 14:
		l := pick(r, a.rows)
		r.Shuffle(len(*l), func(i, k int) { (*l)[i], (*l)[k] = (*l)[k], (*l)[i] })
		*l = (*l)[:r.IntN(len(*l)+1)]
	case n < 16:
		*pick(r, a.types) = pick(r, []string{"", "int", "bool", "[str]", "P", "Nothing", "[[Nothing]]", "[main]", "[int"})
	case n < 17:
		if l := pick(r, a.names); len(*l) > 0 {
			(*l)[r.IntN(len(*l))].Name = pick(r, someNames)
		}
	default:
		spoilNames(r, p, a)
	}
}

func spoilExpr(r *rand.Rand, a *parts) {
	e := pick(r, a.exprs)
	row := e.Kind == api.ECall || e.Kind == api.ENew || e.Kind == api.EArray || r.IntN(20) == 0
	switch n := r.IntN(9); {
	case n < 2 && e.Kind == api.EBinary:
		e.S = pick(r, []string{"+", "-", "<", "==", "&&", "!"})
	case n < 2 && e.S != "" && e.Kind != api.EStr:
		e.S = pick(r, someNames)
	case n < 4 && row && len(e.Kids) > 0:
		e.Kids = e.Kids[:len(e.Kids)-1]
	case n < 6 && row:
		e.Kids = append(e.Kids, others(r, a))
	default:
		*e = others(r, a)
	}
}

func spoilStmt(r *rand.Rand, a *parts) {
	s := pick(r, a.stmts)
	switch s.Kind {
	case api.SLet:
		s.S = pick(r, someNames)
	case api.SReturn:
		s.E = []api.Expr{others(r, a)}[:r.IntN(2)]
	case api.SElse:
		s.Else = nil
	case api.SDo:
		s.E = []api.Expr{others(r, a)}
	default:
		*s = api.Stmt{Kind: api.SLet, S: pick(r, someNames), E: []api.Expr{others(r, a)}, Line: s.Line}
	}
}

func spoilNames(r *rand.Rand, p *api.Program, a *parts) {
	n := 7 + r.IntN(28)
	switch r.IntN(8) {
	case 0:
		p.Records[r.IntN(2)].Name = pick(r, someNames)
	case 1:
		p.Funcs[r.IntN(len(p.Funcs))].Name = pick(r, someNames)
	case 2:
		for i := range n {
			p.Records = append(p.Records, api.Record{Name: "R" + strconv.Itoa(i), Fields: []api.Param{param("x", "int")}})
		}
	case 3:
		for i := range n {
			p.Funcs = append(p.Funcs, api.Func{Name: "f" + strconv.Itoa(i)})
		}
	case 4, 5:
		l := pick(r, a.names)
		for i := range n / 4 {
			*l = append(*l, param("n"+strconv.Itoa(i), "int"))
		}
	default:
		l := pick(r, a.rows)
		for i := range n {
			*l = append(*l, api.Stmt{Kind: api.SLet, S: "l" + strconv.Itoa(i), E: []api.Expr{{Kind: api.EInt}}})
		}
	}
}

var allRules = []string{
	"17th record", "a record named as a type", "a record twice", "9 fields", "a field twice", "a field's type",
	"33rd function", "a function named as one built in", "a function named as a type", "a function twice", "9 parameters", "a parameter twice", "a parameter's type", "a result's type",
	"no main",
	"let without a type", "a let twice", "33rd name", "set", "condition", "return with", "return without", "return of another type", "no call alone", "does not end",
	"no variable", "unary", "binary", "index", "field: no record", "no field", "array",
	"new: no record", "new: too few", "new: too many", "new: a kid of another type", "new: a kid without a type",
	"no function", "call: too few", "call: too many", "call: a kid of another type", "call: a kid without a type",
	"len: too few", "len: too many", "len: a kid of another type", "len: a kid without a type",
	"str: too few", "str: too many", "str: a kid of another type", "str: a kid without a type",
	"array(): too few", "array(): too many", "array(): a kid of another type", "array(): a kid without a type",
	"input: too many", "print: too few", "print: a kid without a type",
}

// P5.1: Check tells of many programs, some of them with a few things wrong, what the chapter's rules tell that are gone through another way.
func TestCheckOfManyPrograms(t *testing.T) {
	met := map[string]int{}
	for seed := range uint64(5000) {
		m := newMaker(seed)
		p := m.program()
		if line, err := Check(p); line != 0 || err != api.OK {
			s, _ := syntax.Print(p)
			t.Fatalf("seed %d: error %d at %s\n%s", seed, err, toldAt(p, line), s)
		}
		for range 1 + m.IntN(4) {
			spoil(m.Rand, &p)
		}
		p = scattered(p)
		want := judge{p: p}.verdictOrArg()
		if line, err := Check(p); line != want.line || err != want.why {
			s, _ := syntax.Print(p)
			t.Fatalf("seed %d: error %d at %q, not %d at %q (%s)\n%s", seed, err, toldAt(p, line), want.why, toldAt(p, want.line), want.rule, s)
		}
		if met[want.rule]++; met[want.rule] <= 5 {
			checkCopy(t, p)
		}
	}
	for _, r := range append(allRules, "arg", "") {
		if met[r] == 0 {
			t.Errorf("%q was never wrong", r)
		}
		delete(met, r)
	}
	if len(met) > 0 {
		t.Error("rules that are not listed:", slices.Collect(maps.Keys(met)))
	}
}

func (j judge) verdictOrArg() verdict {
	if _, err := syntax.Print(j.p); err == api.ErrArg {
		return verdict{0, api.ErrArg, "arg"}
	}
	return j.program()
}

// P5.2: Of tells of many expressions, in programs that are taken as they are, what the chapter's rules tell that are gone through another way.
func TestOfManyExpressions(t *testing.T) {
	met := map[string]int{}
	for seed := range uint64(4000) {
		m := newMaker(seed)
		p := m.program()
		for range m.IntN(4) {
			spoil(m.Rand, &p)
		}
		p = scattered(p)
		vars := []api.Param{param("a", "int"), param("vA", "P"), param("b", "[int]"), param("vB", "[P]"), param("a", "[[str]]"), param("c", "Nothing"), param("x", "bool")}
		m.Shuffle(len(vars), func(i, k int) { vars[i], vars[k] = vars[k], vars[i] })
		m.vars = nil
		e := m.expr(pick(m.Rand, someTypes), 4)
		if m.IntN(4) == 0 {
			e = m.callAlone()
		}
		holder := api.Program{Records: p.Records, Funcs: []api.Func{{Name: "main", Body: []api.Stmt{{Kind: api.SDo, E: []api.Expr{e}}}}}}
		a := partsOf(&holder)
		for range m.IntN(4) {
			spoilExpr(m.Rand, a)
			a = partsOf(&holder)
		}
		e = scattered(holder).Funcs[0].Body[0].E[0]
		_, arg := syntax.PrintExpr(e)
		want, bad := "", verdict{0, api.ErrArg, "arg"}
		if arg != api.ErrArg {
			want, bad = judge{p, vars}.typ(e)
		}
		if bad != fine {
			want = ""
		}
		if got, line, err := Of(p, vars, e); got != want || line != bad.line || err != bad.why {
			s, _ := syntax.PrintExpr(e)
			t.Fatalf("seed %d: %q, error %d at %q, not %q, %d at %q (%s)\n%s", seed, got, err, toldInExpr(e, line), want, bad.why, toldInExpr(e, bad.line), bad.rule, s)
		}
		if met[bad.rule]++; met[bad.rule] <= 5 {
			ofCopy(t, p, vars, e)
		}
	}
	for _, r := range append(allRules[25:], "") {
		if met[r] == 0 {
			t.Errorf("%q was never wrong", r)
		}
	}
}
