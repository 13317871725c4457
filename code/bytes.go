package code

import (
	"hindcast/api"
	"hindcast/wire"
)

// Bytes tells a code's bytes.
func Bytes(c api.Code) ([]byte, api.Errno) {
	if !isRight(c) {
		return nil, api.ErrArg
	}
	b := putAll(nil, c.Strs, func(b []byte, s string) []byte { return put(b, text(s)) })
	b = putAll(b, c.Shapes, putShape)
	b = putAll(b, c.Units, putUnit)
	return put(b, number(c.Main)), api.OK
}

// Load tells the code of bytes.
func Load(b []byte) (api.Code, api.Errno) {
	var c api.Code
	r := wire.NewReader(b)
	c.Strs = readAll(r, readText)
	c.Shapes = readAll(r, readShape)
	c.Units = readAll(r, readUnit)
	c.Main = r.Int()
	if err := r.End(); err != api.OK {
		return api.Code{}, err
	}
	if !isRight(c) {
		return api.Code{}, api.ErrArg
	}
	return c, api.OK
}

func putShape(b []byte, s api.Shape) []byte {
	b = put(b, text(s.Name))
	return putAll(b, s.Fields, func(b []byte, field string) []byte { return put(b, text(field)) })
}

func readShape(r *wire.Reader) api.Shape {
	var s api.Shape
	s.Name = readText(r)
	s.Fields = readAll(r, readText)
	return s
}

func putUnit(b []byte, u api.Unit) []byte {
	b = put(b, text(u.Name), number(u.Params), number(u.Slots), number(u.Stack), wire.PutBool(nil, u.Result))
	b = putAll(b, u.Ins, func(b []byte, i api.Ins) []byte { return put(b, number(int(i.Op)), number(i.A)) })
	return putAll(b, u.Vars, putVar)
}

func readUnit(r *wire.Reader) api.Unit {
	var u api.Unit
	u.Name = readText(r)
	u.Params = r.Int()
	u.Slots = r.Int()
	u.Stack = r.Int()
	u.Result = r.Bool()
	u.Ins = readAll(r, readIns)
	u.Vars = readAll(r, readVar)
	return u
}

func readIns(r *wire.Reader) api.Ins {
	var i api.Ins
	i.Op = api.Op(r.Int())
	i.A = r.Int()
	return i
}

func putVar(b []byte, v api.Var) []byte {
	return put(b, text(v.Name), number(v.Slot), number(v.From), number(v.To))
}

func readVar(r *wire.Reader) api.Var {
	var v api.Var
	v.Name = readText(r)
	v.Slot = r.Int()
	v.From = r.Int()
	v.To = r.Int()
	return v
}

// put puts pieces behind bytes that are this package's own: wire's calls would copy all that stands ahead, each time.
func put(b []byte, pieces ...[]byte) []byte {
	for _, p := range pieces {
		b = append(b, p...)
	}
	return b
}

func number(n int) []byte { return wire.PutInt(nil, n) }

func text(s string) []byte { return wire.PutText(nil, s) }

// putAll puts how many there are, and each.
func putAll[T any](b []byte, l []T, one func(b []byte, x T) []byte) []byte {
	b = put(b, number(len(l)))
	for _, x := range l {
		b = one(b, x)
	}
	return b
}

// readAll reads what putAll puts; bytes may tell of more than they have, so a reader that is not well is asked no further.
func readAll[T any](r *wire.Reader, one func(r *wire.Reader) T) []T {
	var all []T
	for n := r.Count(api.MaxFrame); n > 0 && r.Err() == api.OK; n-- {
		all = append(all, one(r))
	}
	return all
}

func readText(r *wire.Reader) string { return r.Text(api.MaxText) }
