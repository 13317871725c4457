package syntax

import (
	"strings"

	"hindcast/api"
	"hindcast/lex"
)

// writer writes what may be told, and gives up at what may not. It goes on when the text is too long, without keeping it: what may not be told is told first.
type writer struct {
	text strings.Builder
	long bool
}

// allow gives up unless something may be told.
func allow(may bool) {
	if !may {
		panic(stuck{why: api.ErrArg})
	}
}

func (w *writer) put(s string) {
	w.long = w.long || len(s) > api.MaxSource-w.text.Len()
	if !w.long {
		w.text.WriteString(s)
	}
}

// token writes a token, if lex knows such a one.
func (w *writer) token(t api.Tok) {
	s, err := lex.Text(t)
	allow(err == api.OK)
	w.put(s)
}

func (w *writer) name(s string) { w.token(api.Tok{Kind: api.TName, S: s}) }

// putRow writes things with a comma between each two.
func putRow[T any](w *writer, l []T, one func(x T)) {
	for i, x := range l {
		if i > 0 {
			w.put(", ")
		}
		one(x)
	}
}

func (w *writer) program(p api.Program) {
	for _, r := range p.Records {
		w.record(r)
	}
	for _, f := range p.Funcs {
		w.function(f)
	}
}

func (w *writer) record(r api.Record) {
	allow(len(r.Fields) > 0)
	w.put("record ")
	w.name(r.Name)
	w.put(" { ")
	putRow(w, r.Fields, w.param)
	w.put(" }\n")
}

func (w *writer) function(f api.Func) {
	w.put("fn ")
	w.name(f.Name)
	w.put("(")
	putRow(w, f.Params, w.param)
	w.put(")")
	if f.Result != "" {
		w.put(": ")
		w.typeText(f.Result)
	}
	w.put(" ")
	w.block(f.Body, api.MaxDepth)
	w.put("\n")
}

func (w *writer) param(p api.Param) {
	w.name(p.Name)
	w.put(": ")
	w.typeText(p.Type)
}

func (w *writer) typeText(s string) {
	name := s
	for strings.HasPrefix(name, "[") && strings.HasSuffix(name, "]") {
		name = name[1 : len(name)-1]
	}
	deep := (len(s) - len(name)) / 2
	w.put(s[:deep])
	w.name(name)
	w.put(s[len(s)-deep:])
}

// block writes statements that may be so deep.
func (w *writer) block(l []api.Stmt, depth int) {
	w.put("{\n")
	for _, s := range l {
		w.statement(s, depth)
	}
	w.put("}")
}

// statement writes a statement that may be so deep.
func (w *writer) statement(s api.Stmt, depth int) {
	allow(depth > 0 && isStmt(s))
	expr := func(i int) { w.expr(s.E[i], depth-1) }
	switch s.Kind {
	case api.SLet:
		w.put("let ")
		w.name(s.S)
		w.put(" = ")
		expr(0)
		w.put(";\n")
	case api.SSet:
		expr(0)
		w.put(" = ")
		expr(1)
		w.put(";\n")
	case api.SReturn:
		w.put("return")
		for _, e := range s.E {
			w.put(" ")
			w.expr(e, depth-1)
		}
		w.put(";\n")
	case api.SDo:
		expr(0)
		w.put(";\n")
	default:
		w.withBlocks(s, depth)
	}
}

// withBlocks writes an if or a while.
func (w *writer) withBlocks(s api.Stmt, depth int) {
	if s.Kind == api.SWhile {
		w.put("while ")
	} else {
		w.put("if ")
	}
	w.expr(s.E[0], depth-1)
	w.put(" ")
	w.block(s.Body, depth-1)
	if s.Kind == api.SElse {
		w.put(" else ")
		w.block(s.Else, depth-1)
	}
	w.put("\n")
}

// isStmt tells whether a statement has what its kind has, and nothing else; what its name and its expressions are is asked where they are written.
func isStmt(s api.Stmt) bool {
	hasName, hasElse := s.Kind == api.SLet, s.Kind == api.SElse
	hasBody := hasElse || s.Kind == api.SIf || s.Kind == api.SWhile
	return hasItsExprs(s) && (hasName || s.S == "") && (hasBody || len(s.Body) == 0) && (hasElse || len(s.Else) == 0)
}

func hasItsExprs(s api.Stmt) bool {
	switch s.Kind {
	case api.SLet, api.SIf, api.SElse, api.SWhile, api.SDo:
		return len(s.E) == 1
	case api.SSet:
		return len(s.E) == 2 && isPlace(s.E[0])
	case api.SReturn:
		return len(s.E) <= 1
	}
	return false
}

// expr writes an expression that may be so deep.
func (w *writer) expr(e api.Expr, depth int) {
	allow(depth > 0 && isExpr(e))
	inner := func(kid api.Expr) { w.expr(kid, depth-1) }
	switch e.Kind {
	case api.EInt:
		w.token(api.Tok{Kind: api.TInt, N: e.N})
	case api.EBool:
		w.put([...]string{"false", "true"}[e.N])
	case api.EStr:
		w.token(api.Tok{Kind: api.TStr, S: e.S})
	case api.EName:
		w.name(e.S)
	case api.ECall:
		w.name(e.S)
		w.put("(")
		putRow(w, e.Kids, inner)
		w.put(")")
	case api.ENew:
		w.put("new ")
		w.name(e.S)
		w.put("(")
		putRow(w, e.Kids, inner)
		w.put(")")
	case api.EArray:
		w.put("[")
		putRow(w, e.Kids, inner)
		w.put("]")
	default:
		w.withSigns(e, depth)
	}
}

// withSigns writes an expression of which a kid stands beside a sign without brackets about it, if it may.
func (w *writer) withSigns(e api.Expr, depth int) {
	switch e.Kind {
	case api.EUnary:
		w.put(e.S)
		w.kid(e.Kids[0], ahead, depth-1)
	case api.EBinary:
		own := level(e.S)
		w.kid(e.Kids[0], own, depth-1)
		w.put(" ")
		w.put(e.S)
		w.put(" ")
		w.kid(e.Kids[1], own+1, depth-1) // those of one level are read from the left
	case api.EIndex:
		w.kid(e.Kids[0], behind, depth-1)
		w.put("[")
		w.expr(e.Kids[1], depth-1)
		w.put("]")
	case api.EField:
		w.kid(e.Kids[0], behind, depth-1)
		w.put(".")
		w.name(e.S)
	}
}

// kid writes an expression, in ( ) if it binds less tightly than it has to.
func (w *writer) kid(e api.Expr, least, depth int) {
	if exprLevel(e) >= least {
		w.expr(e, depth)
		return
	}
	w.put("(")
	w.expr(e, depth)
	w.put(")")
}

func exprLevel(e api.Expr) int {
	switch e.Kind {
	case api.EBinary:
		return level(e.S)
	case api.EUnary:
		return ahead
	}
	return behind
}

// isExpr tells whether an expression has what its kind has, and nothing else; what its names, texts, numbers and kids are is asked where they are written.
func isExpr(e api.Expr) bool {
	kids := len(e.Kids)
	switch e.Kind {
	case api.EInt:
		return e.S == "" && kids == 0
	case api.EBool:
		return e.S == "" && kids == 0 && (e.N == 0 || e.N == 1)
	case api.EStr, api.EName:
		return e.N == 0 && kids == 0
	case api.ECall, api.ENew:
		return e.N == 0
	case api.EUnary:
		return e.N == 0 && kids == 1 && goesAhead(e.S)
	case api.EBinary:
		return e.N == 0 && kids == 2 && level(e.S) > 0
	case api.EIndex:
		return e.N == 0 && kids == 2 && e.S == ""
	case api.EField:
		return e.N == 0 && kids == 1
	case api.EArray:
		return e.N == 0 && kids >= 1 && e.S == ""
	}
	return false
}
