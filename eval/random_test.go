package eval

import (
	"maps"
	"math"
	"math/rand/v2"
	"slices"
	"strings"
	"testing"

	"hindcast/api"
	"hindcast/syntax"
)

// chance makes spots and expressions that need fit nothing.
type chance struct{ *rand.Rand }

func newChance(n, seed uint64) chance { return chance{rand.New(rand.NewPCG(n, seed))} }

func (c chance) name() string { return some(c.Rand, "a", "b", "c", "d", "x", "y", "len") }

// value tells a value that is right among n objects; references are many.
func (c chance) value(n int) api.Val {
	switch k := c.IntN(8); {
	case k < 2:
		return num(pick(c.Rand, []int{0, 1, 2, -1, 3, math.MinInt, math.MaxInt}))
	case k < 3:
		return bit(c.IntN(2))
	case k < 5:
		return txt(strings.Repeat("q", pick(c.Rand, []int{0, 1, 2, 127, 128, 255})))
	case n == 0:
		return num(7)
	}
	return ref(c.IntN(n))
}

func (c chance) spot() spot {
	var s spot
	n := c.IntN(5)
	for range n {
		o := obj(some(c.Rand, "", "", "P", "Q", "R"))
		for range c.IntN(4) {
			o.Cells = append(o.Cells, c.value(n))
		}
		s.objects = append(s.objects, o)
	}
	for range c.IntN(4) {
		x := shape(some(c.Rand, "P", "Q", "R", ""))
		for range c.IntN(5) {
			x.Fields = append(x.Fields, c.name())
		}
		s.shapes = append(s.shapes, x)
	}
	for range c.IntN(8) {
		s.vars = append(s.vars, named(c.name(), c.value(n)))
		if c.IntN(20) == 0 {
			s.vars[len(s.vars)-1].Value = none
		}
	}
	return s
}

// bad tells a value that is right among no few objects.
func (c chance) bad() api.Val {
	return pick(c.Rand, []api.Val{ref(5), ref(-1), {Kind: api.VBool, N: 2}, txt("\x01"), {Kind: 7}, {N: 1}, {Kind: api.VInt, S: "a"}})
}

// expr tells an expression that is at most so deep, and of no type in particular.
func (c chance) expr(depth int) api.Expr {
	if depth <= 1 || c.IntN(5) == 0 {
		return pick(c.Rand, []api.Expr{
			{Kind: api.EInt, N: c.IntN(4)}, {Kind: api.EInt, N: math.MaxInt}, {Kind: api.EBool, N: c.IntN(2)}, {Kind: api.EStr, S: some(c.Rand, "", "q", "qqq")},
			{Kind: api.EName, S: c.name()}, {Kind: api.EName, S: c.name()}, {Kind: api.EName, S: c.name()}, {Kind: api.EName, S: c.name()},
		})
	}
	row := func(n int) []api.Expr {
		var l []api.Expr
		for range n {
			l = append(l, c.expr(depth-1))
		}
		return l
	}
	switch c.IntN(14) {
	case 0, 1:
		return api.Expr{Kind: api.EUnary, S: some(c.Rand, "-", "!"), Kids: row(1)}
	case 2, 3, 4:
		return api.Expr{Kind: api.EIndex, Kids: row(2)}
	case 5, 6, 7:
		return api.Expr{Kind: api.EField, S: c.name(), Kids: row(1)}
	case 8:
		return api.Expr{Kind: api.ECall, S: some(c.Rand, "len", "str"), Kids: row(1)}
	case 9:
		switch c.IntN(8) {
		case 0:
			return api.Expr{Kind: api.EArray, Kids: row(1 + c.IntN(3))}
		case 1:
			return api.Expr{Kind: api.ENew, S: some(c.Rand, "P", "a"), Kids: row(c.IntN(3))}
		case 2:
			return api.Expr{Kind: api.ECall, S: some(c.Rand, "len", "str", "print", "a", "array"), Kids: row(c.IntN(4))}
		}
	}
	return api.Expr{Kind: api.EBinary, S: some(c.Rand, "+", "+", "-", "*", "/", "%", "==", "!=", "<", "<=", ">", ">=", "&&", "||"), Kids: row(2)}
}

// nodes tells all expressions of an expression, where they stand.
func nodes(x *api.Expr) []*api.Expr {
	l := []*api.Expr{x}
	for i := range x.Kids {
		l = append(l, nodes(&x.Kids[i])...)
	}
	return l
}

// spoil makes something of an expression that may not be.
func (c chance) spoil(x *api.Expr) {
	e := pick(c.Rand, nodes(x))
	switch c.IntN(4) {
	case 0:
		e.Kind = api.ExprKind(c.IntN(14) - 1)
	case 1:
		e.N = c.IntN(4) - 2
	case 2:
		e.S = some(c.Rand, "", "a", "+", "while", "!")
	case 3:
		e.Kids = append(e.Kids, c.expr(2))
	}
}

// rules are what may be wrong, which chance has to come upon.
var rules = []string{
	"", "no expression", "a value", "it makes something", "another call", "a call with other kids", "no variable", "side 0 of &&", "side 1 of &&", "side 0 of ||", "side 1 of ||",
	"a field of none", "a field of int", "a field of bool", "a field of str", "a field of array", "no field", "no shape", "a field's cell", "an index's cell", "/ 0", "% 0", "a text",
	"- str", "- array", "- bool", "! int", "! record", "+ int str", "+ bool bool", "+ array array", "- str str", "* int bool", "/ str int", "% int str",
	"== array array", "!= record record", "== int bool", "!= str int", "== none none", "< int str", "<= bool bool", "> array array", ">= str int",
	"[] record int", "[] str int", "[] int int", "[] array str", "[] array bool", "[] array array", "len int", "len bool", "str array", "str record",
}

// P13.1, P13.2: what many expressions come to, and what is wrong with them, is what the judge tells.
func TestManyExpressions(t *testing.T) {
	met := map[string]int{}
	for seed := range uint64(120000) {
		c := newChance(1, seed)
		j := judge{spot: c.spot()}
		x := c.expr(1 + c.IntN(5))
		if c.IntN(30) == 0 {
			c.spoil(&x)
		}
		if c.IntN(30) == 0 {
			j.vars = append(j.vars, named(c.name(), c.bad()))
		}
		want, why := j.verdict(x)
		met[j.rule]++
		got, err := j.eval(x)
		if got != want || err != why {
			t.Fatalf("seed %d: Eval of %s at %s: %s, error %d, not %s, error %d (%s)", seed, shown(x), shown(j.spot), shown(got), err, shown(want), why, j.rule)
		}
		if s, e := syntax.PrintExpr(x); e == api.OK {
			text, err := j.text(s)
			if is := j.heap().Show(want); err != why || err == api.OK && text != is || err != api.OK && text != "" {
				t.Fatalf("seed %d: Text of %s at %s: %q, error %d, not %q, error %d (%s)", seed, s, shown(j.spot), text, err, is, why, j.rule)
			}
		}
	}
	for _, r := range rules {
		if met[r] == 0 {
			t.Errorf("%q was never wrong; there were %v", r, slices.Sorted(maps.Keys(met)))
		}
	}
}

// P13.5: variables that an expression does not name may be there or not, with any value that is right, in any order.
func TestNotNamed(t *testing.T) {
	fine := 0
	for seed := range uint64(20000) {
		c := newChance(2, seed)
		s := c.spot()
		x := c.expr(1 + c.IntN(4))
		want, why := s.eval(x)
		if why == api.OK {
			fine++
		}
		is := map[string]bool{}
		for _, e := range nodes(&x) {
			if e.Kind == api.EName {
				is[e.S] = true
			}
		}
		fewer, more, others := s, s, s
		fewer.vars, more.vars, others.vars = nil, nil, nil
		for _, b := range s.vars {
			if is[b.Name] {
				fewer.vars = append(fewer.vars, b)
			}
			for range c.IntN(3) {
				more.vars = append(more.vars, named(some(c.Rand, "other", "a1", "", "true", "aa"), c.value(len(s.objects))))
			}
			more.vars = append(more.vars, b)
			if !is[b.Name] {
				b.Value = c.value(len(s.objects))
			}
			others.vars = append(others.vars, b)
		}
		for _, o := range []spot{fewer, more, others} {
			if v, err := o.eval(x); v != want || err != why {
				t.Fatalf("seed %d: %s, error %d, not %s, error %d, of %s at %s", seed, shown(v), err, shown(want), why, shown(x), shown(o))
			}
		}
	}
	if fine < 2000 {
		t.Error("too few expressions came to something:", fine)
	}
}
