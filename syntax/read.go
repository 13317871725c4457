package syntax

import (
	"strings"

	"hindcast/api"
)

// reader goes through tokens; the last one that is left is the end, which is never gone behind.
type reader struct{ left []api.Tok }

func (r *reader) here() api.Tok { return r.left[0] }

func (r *reader) step() { r.left = r.left[1:] }

func (r *reader) giveUp() { panic(stuck{why: api.ErrSyntax, at: r.here().At}) }

// is tells whether a sign or a word stands here; a text that stands for the same bytes is none.
func (r *reader) is(s string) bool {
	t := r.here()
	return (t.Kind == api.TSign || t.Kind == api.TWord) && t.S == s
}

// skip goes behind a sign or a word, if it stands here.
func (r *reader) skip(s string) bool {
	is := r.is(s)
	if is {
		r.step()
	}
	return is
}

func (r *reader) need(s string) {
	if !r.skip(s) {
		r.giveUp()
	}
}

func (r *reader) end() {
	if r.here().Kind != api.TEnd {
		r.giveUp()
	}
}

func (r *reader) name() string {
	t := r.here()
	if t.Kind != api.TName {
		r.giveUp()
	}
	r.step()
	return t.S
}

// row reads one thing at least, with a comma between each two.
func row[T any](r *reader, one func() T) []T {
	l := []T{one()}
	for r.skip(",") {
		l = append(l, one())
	}
	return l
}

// inBrackets reads a row of things, or none, in ( ).
func inBrackets[T any](r *reader, one func() T) []T {
	r.need("(")
	if r.skip(")") {
		return nil
	}
	l := row(r, one)
	r.need(")")
	return l
}

func (r *reader) program() api.Program {
	var p api.Program
	for r.here().Kind != api.TEnd {
		line := r.here().Line
		switch {
		case r.skip("record"):
			p.Records = append(p.Records, r.record(line))
		case r.skip("fn"):
			p.Funcs = append(p.Funcs, r.function(line))
		default:
			r.giveUp()
		}
	}
	return p
}

func (r *reader) record(line int) api.Record {
	x := api.Record{Name: r.name(), Line: line}
	r.need("{")
	x.Fields = row(r, r.param)
	r.need("}")
	return x
}

func (r *reader) function(line int) api.Func {
	f := api.Func{Name: r.name(), Line: line}
	f.Params = inBrackets(r, r.param)
	if r.skip(":") {
		f.Result = r.typeText()
	}
	f.Body = r.block()
	return f
}

func (r *reader) param() api.Param {
	p := api.Param{Name: r.name()}
	r.need(":")
	p.Type = r.typeText()
	return p
}

func (r *reader) typeText() string {
	deep := 0
	for r.skip("[") {
		deep++
	}
	name := r.name()
	for range deep {
		r.need("]")
	}
	return strings.Repeat("[", deep) + name + strings.Repeat("]", deep)
}

func (r *reader) block() []api.Stmt {
	r.need("{")
	var l []api.Stmt
	for !r.skip("}") {
		l = append(l, r.statement())
	}
	return l
}

func (r *reader) statement() api.Stmt {
	line := r.here().Line
	var s api.Stmt
	switch {
	case r.skip("let"):
		s = r.let()
	case r.skip("if"):
		s = r.choice()
	case r.skip("while"):
		s = api.Stmt{Kind: api.SWhile, E: []api.Expr{r.expr()}}
		s.Body = r.block()
	case r.skip("return"):
		s = r.giveBack()
	default:
		s = r.setOrDo()
	}
	s.Line = line
	return s
}

func (r *reader) let() api.Stmt {
	s := api.Stmt{Kind: api.SLet, S: r.name()}
	r.need("=")
	s.E = []api.Expr{r.expr()}
	r.need(";")
	return s
}

func (r *reader) choice() api.Stmt {
	s := api.Stmt{Kind: api.SIf, E: []api.Expr{r.expr()}}
	s.Body = r.block()
	if r.skip("else") {
		s.Kind = api.SElse
		s.Else = r.block()
	}
	return s
}

func (r *reader) giveBack() api.Stmt {
	s := api.Stmt{Kind: api.SReturn}
	if r.skip(";") {
		return s
	}
	s.E = []api.Expr{r.expr()}
	r.need(";")
	return s
}

func (r *reader) setOrDo() api.Stmt {
	s := api.Stmt{Kind: api.SDo, E: []api.Expr{r.expr()}}
	if r.is("=") {
		// It is asked ahead of going on, so that the = itself is what can't stand here.
		if !isPlace(s.E[0]) {
			r.giveUp()
		}
		r.step()
		s.Kind = api.SSet
		s.E = append(s.E, r.expr())
	}
	r.need(";")
	return s
}

func (r *reader) expr() api.Expr { return r.between(loosest) }

// between reads an expression whose signs between two are of a level, or bind more tightly.
func (r *reader) between(least int) api.Expr {
	if least > tightest {
		return r.unary()
	}
	e := r.between(least + 1)
	for r.here().Kind == api.TSign && level(r.here().S) == least {
		sign := r.here().S
		r.step()
		e = api.Expr{Kind: api.EBinary, S: sign, Kids: []api.Expr{e, r.between(least + 1)}, Line: e.Line}
	}
	return e
}

func (r *reader) unary() api.Expr {
	t := r.here()
	if t.Kind != api.TSign || !goesAhead(t.S) {
		return r.withParts()
	}
	r.step()
	return api.Expr{Kind: api.EUnary, S: t.S, Kids: []api.Expr{r.unary()}, Line: t.Line}
}

// withParts reads an expression, and the indexes and fields behind it.
func (r *reader) withParts() api.Expr {
	e := r.single()
	for {
		switch {
		case r.skip("["):
			e = api.Expr{Kind: api.EIndex, Kids: []api.Expr{e, r.expr()}, Line: e.Line}
			r.need("]")
		case r.skip("."):
			e = api.Expr{Kind: api.EField, S: r.name(), Kids: []api.Expr{e}, Line: e.Line}
		default:
			return e
		}
	}
}

func (r *reader) single() api.Expr {
	t := r.here()
	switch {
	case t.Kind == api.TInt:
		r.step()
		return api.Expr{Kind: api.EInt, N: t.N, Line: t.Line}
	case t.Kind == api.TStr:
		r.step()
		return api.Expr{Kind: api.EStr, S: t.S, Line: t.Line}
	case t.Kind == api.TName:
		return r.nameOrCall()
	case r.skip("true"):
		return api.Expr{Kind: api.EBool, N: 1, Line: t.Line}
	case r.skip("false"):
		return api.Expr{Kind: api.EBool, Line: t.Line}
	case r.skip("new"):
		e := api.Expr{Kind: api.ENew, S: r.name(), Line: t.Line}
		e.Kids = inBrackets(r, r.expr)
		return e
	case r.skip("["):
		e := api.Expr{Kind: api.EArray, Kids: row(r, r.expr), Line: t.Line}
		r.need("]")
		return e
	}
	r.need("(")
	e := r.expr()
	r.need(")")
	return e
}

func (r *reader) nameOrCall() api.Expr {
	e := api.Expr{Kind: api.EName, Line: r.here().Line}
	e.S = r.name()
	if r.is("(") {
		e.Kind = api.ECall
		e.Kids = inBrackets(r, r.expr)
	}
	return e
}
