package snap

import (
	"hindcast/api"
	"hindcast/wire"
)

// Bytes tells a state's bytes.
func Bytes(s api.State) ([]byte, api.Errno) {
	if err := Check(s); err != api.OK {
		return nil, err
	}
	b := put(nil, number(s.Pos), number(s.Status), number(s.Fault), number(s.Read), text(s.Out))
	b = putAll(b, s.Calls, putCall)
	return putAll(b, s.Heap, putObject), api.OK
}

// Load tells the state of bytes.
func Load(b []byte) (api.State, api.Errno) {
	r := wire.NewReader(b)
	s := readState(r)
	if err := r.End(); err != api.OK {
		return api.State{}, err
	}
	if err := Check(s); err != api.OK {
		return api.State{}, err
	}
	return s, api.OK
}

func readState(r *wire.Reader) api.State {
	var s api.State
	s.Pos = r.Int()
	s.Status = readNumber[api.Status](r)
	s.Fault = readNumber[api.Fault](r)
	s.Read = r.Int()
	s.Out = r.Text(api.MaxOut)
	s.Calls = readAll(r, readCall)
	s.Heap = readAll(r, readObject)
	return s
}

func putCall(b []byte, c api.Called) []byte {
	b = put(b, number(c.Unit), number(c.At), number(c.Mark))
	b = putAll(b, c.Slots, putVal)
	return putAll(b, c.Stack, putVal)
}

func readCall(r *wire.Reader) api.Called {
	var c api.Called
	c.Unit = r.Int()
	c.At = r.Int()
	c.Mark = r.Int()
	c.Slots = readAll(r, readVal)
	c.Stack = readAll(r, readVal)
	return c
}

func putObject(b []byte, o api.Obj) []byte {
	return putAll(put(b, text(o.Tag)), o.Cells, putVal)
}

func readObject(r *wire.Reader) api.Obj {
	var o api.Obj
	o.Tag = r.Text(api.MaxText)
	o.Cells = readAll(r, readVal)
	return o
}

func putVal(b []byte, v api.Val) []byte {
	b = put(b, number(v.Kind))
	behindKind(&v,
		func(n *int) { b = put(b, number(*n)) },
		func(s *string) { b = put(b, text(*s)) })
	return b
}

func readVal(r *wire.Reader) api.Val {
	v := api.Val{Kind: readNumber[api.ValKind](r)}
	behindKind(&v,
		func(n *int) { *n = r.Int() },
		func(s *string) { *s = r.Text(api.MaxText) })
	return v
}

// behindKind does to a value's number, or to its text, what is to be done there, if its kind has one: so what is put and what is read hang on the kind alike.
func behindKind(v *api.Val, doNumber func(n *int), doText func(s *string)) {
	switch v.Kind {
	case api.VInt:
		fallthrough
	case api.VBool:
		fallthrough
	case api.VRef:
		doNumber(&v.N)
	case api.VStr:
		doText(&v.S)
	}
}

// put puts pieces behind bytes that are this package's own: wire's calls would copy all that stands ahead, each time.
func put(b []byte, pieces ...[]byte) []byte {
	for _, p := range pieces {
		b = append(b, p...)
	}
	return b
}

func number[T ~int](n T) []byte { return wire.PutInt(nil, int(n)) }

func readNumber[T ~int](r *wire.Reader) T { return T(r.Int()) }

func text(s string) []byte { return wire.PutText(nil, s) }

// putAll puts how many there are, and each.
func putAll[T any](b []byte, l []T, one func(b []byte, x T) []byte) []byte {
	b = put(b, number(len(l)))
	for _, x := range l {
		b = one(b, x)
	}
	return b
}

// readAll reads what putAll puts; bytes may tell of more than they have, so a reader that is not well is asked no further.
func readAll[T any](r *wire.Reader, one func(r *wire.Reader) T) []T {
	var all []T
	for n := r.Count(api.MaxFrame); n > 0 && r.Err() == api.OK; n-- {
		all = append(all, one(r))
	}
	return all
}
