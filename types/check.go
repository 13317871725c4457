package types

import "hindcast/api"

// checkProgram ends with the first that is wrong in a program that may be told.
func checkProgram(p api.Program) {
	s := newScope()
	s.nameRecords(p.Records)
	s.fieldTypes(p.Records)
	s.nameFuncs(p.Funcs)
	main, there := s.funcs["main"]
	demand(there && len(main.Params) == 0 && main.Result == none, 0, api.ErrName)
	for _, f := range p.Funcs {
		s.checkFunc(f)
	}
}

func (s *scope) nameRecords(l []api.Record) {
	for i, r := range l {
		demand(i < api.MaxRecords, r.Line, api.ErrBig)
		demand(!s.isType(r.Name), r.Line, api.ErrName)
		demand(len(r.Fields) <= api.MaxFields, r.Line, api.ErrBig)
		demand(len(byNames(r.Fields)) == len(r.Fields), r.Line, api.ErrName)
		s.records[r.Name] = r
	}
}

// fieldTypes stands behind nameRecords, since a field may have the type of a later record.
func (s *scope) fieldTypes(l []api.Record) {
	for _, r := range l {
		for _, f := range r.Fields {
			demand(s.isType(f.Type), r.Line, api.ErrType)
		}
	}
}

func (s *scope) nameFuncs(l []api.Func) {
	for i, f := range l {
		demand(i < api.MaxFuncs, f.Line, api.ErrBig)
		_, earlier := s.funcs[f.Name]
		demand(!earlier && !Builtin(f.Name) && !s.isType(f.Name), f.Line, api.ErrName)
		demand(len(f.Params) <= api.MaxParams, f.Line, api.ErrBig)
		demand(len(byNames(f.Params)) == len(f.Params), f.Line, api.ErrName)
		for _, v := range f.Params {
			demand(s.isType(v.Type), f.Line, api.ErrType)
		}
		demand(f.Result == none || s.isType(f.Result), f.Line, api.ErrType)
		s.funcs[f.Name] = f
	}
}

func byNames(l []api.Param) map[string]api.Param {
	m := map[string]api.Param{}
	for _, v := range l {
		m[v.Name] = v
	}
	return m
}

// walk goes through a function's statements.
type walk struct {
	*scope
	result string
	names  map[string]api.Param // all that the function has had so far: a name is not taken again where its row has ended
}

func (s *scope) checkFunc(f api.Func) {
	s.vars = byNames(f.Params)
	w := &walk{s, f.Result, byNames(f.Params)}
	w.row(f.Body)
	demand(f.Result == none || Ends(f.Body), f.Line, api.ErrType)
}

func (w *walk) row(l []api.Stmt) {
	for _, s := range l {
		w.statement(s)
	}
	for _, s := range l {
		if s.Kind == api.SLet {
			delete(w.vars, s.S)
		}
	}
}

func (w *walk) statement(s api.Stmt) {
	switch s.Kind {
	case api.SLet:
		w.let(s)
	case api.SSet:
		place := w.typeOf(s.E[0])
		demand(w.typeOf(s.E[1]) == place, s.Line, api.ErrType)
	case api.SReturn:
		w.giveBack(s)
	case api.SDo:
		demand(s.E[0].Kind == api.ECall, s.Line, api.ErrType)
		w.typeOf(s.E[0])
	default:
		demand(w.typeOf(s.E[0]) == tBool, s.Line, api.ErrType)
		w.row(s.Body)
		w.row(s.Else)
	}
}

func (w *walk) let(s api.Stmt) {
	v := api.Param{Name: s.S, Type: w.typeOf(s.E[0])}
	demand(v.Type != none, s.Line, api.ErrType)
	_, taken := w.names[v.Name]
	demand(!taken, s.Line, api.ErrName)
	demand(len(w.names) < api.MaxLocals, s.Line, api.ErrBig)
	w.names[v.Name] = v
	w.vars[v.Name] = v
}

func (w *walk) giveBack(s api.Stmt) {
	demand((w.result != none) == (len(s.E) == 1), s.Line, api.ErrType)
	for _, e := range s.E {
		demand(w.typeOf(e) == w.result, s.Line, api.ErrType)
	}
}
