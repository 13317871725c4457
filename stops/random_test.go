package stops

import (
	"fmt"
	"math"
	"math/rand/v2"
	"testing"

	"hindcast/api"
	"hindcast/syntax"
)

// chance tells things by chance, the same each time.
type chance struct{ *rand.Rand }

func newChance(n, seed int) chance { return chance{rand.New(rand.NewPCG(uint64(n), uint64(seed)))} }

func one[T any](c chance, l ...T) T { return l[c.IntN(len(l))] }

func (c chance) line() int {
	return one(c, 0, 1, 1, 2, 2, 3, 3, 4, -1, math.MaxInt, math.MinInt)
}

// text tells an expression's text, now and then what is none.
func (c chance) text() string {
	if c.IntN(8) == 0 {
		return one(c, "", " ", "1 +", "a b", "@", "a;", "------------------------1", "9223372036854775808")
	}
	leaf := func() string {
		return one(c, "a", "b", "t", "f", "s", "n", "l", "p", "zz", "0", "1", "true", "false", `"true"`, "l[0]", "p.x", "p.s")
	}
	switch c.IntN(9) {
	case 0:
		return leaf()
	case 6, 7:
		return fmt.Sprintf("%s %s %s", one(c, "a", "b", "0", "1", "len(s)"), one(c, "==", "!=", "<", "<=", ">", ">="), one(c, "a", "b", "1", "2"))
	case 8:
		return fmt.Sprintf("%s %s %s", one(c, "t", "f", "a != b", "true"), one(c, "&&", "||", "=="), one(c, "t", "!f", `s == "true"`))
	case 1:
		return one(c, "!", "-", "len", "str") + "(" + leaf() + ")"
	case 2:
		return fmt.Sprintf("%s[%s].%s", leaf(), leaf(), one(c, "x", "s"))
	}
	return fmt.Sprintf("%s %s %s", leaf(), one(c, "==", "==", "!=", "<", "<=", ">", ">=", "&&", "||", "+", "-", "/", "%"), leaf())
}

// cell tells a value that is right among two objects, and not none.
func (c chance) cell() api.Val {
	return one(c, num(0), num(1), num(2), num(-1), bit(0), bit(1), bit(1), txt(""), txt("true"), ref(0), ref(1))
}

// spot tells where a run might stand, with variables, heaps and shapes of every kind, few of which are not right.
func (c chance) spot() spot {
	p := spot{heap: objects(obj("", c.cell()), obj("P", c.cell(), c.cell()))}
	switch c.IntN(4) {
	case 0:
		p = one(c, spots()...)
	case 1, 2:
		p.vars = here().vars
	}
	for range c.IntN(6) {
		p.vars = append(p.vars, named(one(c, "a", "b", "t", "f", "s", "n", "l", "p"), one(c, c.cell(), c.cell(), c.cell(), none)))
	}
	for range c.IntN(3) {
		p.shapes = append(p.shapes, shape(one(c, "P", "P", "Q"), one(c, "x", "s"), one(c, "x", "s", "y")))
	}
	return p
}

// id tells an Id that is there, was there, or never will be.
func (c chance) id(m *model) int {
	all := m.all()
	if len(all) > 0 && c.IntN(3) > 0 {
		return one(c, all...).Id
	}
	return one(c, 0, -1, 1, m.next-1, m.next, m.next+1, m.next-c.IntN(20), math.MaxInt, math.MinInt)
}

// tally tells how often each call was answered what.
type tally map[string]int

func (n tally) note(call string, err api.Errno) { n[fmt.Sprint(call, int(err))]++ }

// do makes one call by chance of a table and of its model, and tells what it was.
func (c chance) do(t *testing.T, x *Table, m *model, n tally) string {
	t.Helper()
	switch k := c.IntN(12); {
	case k < 4:
		line, cond := c.line(), c.text()
		if c.IntN(3) == 0 {
			cond = ""
		}
		what := fmt.Sprintf("Break(%d, %q)", line, cond)
		id, err := x.Break(line, cond)
		wantId, want := m.brk(line, cond)
		n.note("Break", want)
		expect(t, what, id, wantId)
		expect(t, what, err, want)
		return what
	case k < 7:
		s := c.text()
		what := fmt.Sprintf("Watch(%q)", s)
		id, err := x.Watch(s)
		wantId, want := m.watch(s)
		n.note("Watch", want)
		expect(t, what, id, wantId)
		expect(t, what, err, want)
		return what
	case k < 9:
		id := c.id(m)
		what := fmt.Sprintf("Delete(%d)", id)
		want := m.delete(id)
		n.note("Delete", want)
		expect(t, what, x.Delete(id), want)
		return what
	}
	id, on := c.id(m), c.IntN(2) == 0
	what := fmt.Sprintf("Turn(%d, %v)", id, on)
	want := m.turn(id, on)
	n.note("Turn", want)
	expect(t, what, x.Turn(id, on), want)
	return what
}

// P14.1 to P14.7: rows of calls by chance, held against the model, each of a table that now and then is loaded anew.
func TestByChance(t *testing.T) {
	n := tally{}
	for seed := range 800 {
		c := newChance(1, seed)
		x, m := New(), newModel(1)
		if next := one(c, 1, 1, 1, 2, 1000, api.MaxId-40, api.MaxId-5, api.MaxId); next > 1 {
			x, m = mustLoad(t, nil, next), newModel(next)
		}
		given := map[int]bool{}
		var all string
		for i := range 60 {
			was := m.next
			all = fmt.Sprintf("%.1500s; %s", c.do(t, x, m, n), all)
			if m.next > was {
				if given[was] {
					t.Errorf("the Id %d is given twice", was)
				}
				given[was] = true
			}
			if c.IntN(15) == 0 {
				x = mustLoad(t, x.All(), x.Next())
			}
			var at []spot
			if i%6 == 0 || i > 56 {
				at = []spot{c.spot(), c.spot()}
			}
			expectSame(t, fmt.Sprintf("seed %d, the last one first: %s", seed, all), x, m, at...)
			if t.Failed() {
				t.Fatalf("seed %d, the last one first: %.2000s", seed, all)
			}
		}
	}
	for _, want := range []string{"Break0", "Break2", "Break5", "Break6", "Break7", "Break12", "Watch0", "Watch5", "Watch6", "Watch7", "Watch12", "Delete0", "Delete10", "Turn0", "Turn10"} {
		if n[want] < 20 {
			t.Errorf("%s was answered %d times only: %v", want, n[want], n)
		}
	}
}

// P14.4, P14.5: of many stops and spots some are met and others are not.
func TestSomeAreMet(t *testing.T) {
	met, not, shown, unknown := 0, 0, 0, 0
	for seed := range 2500 {
		c := newChance(2, seed)
		x, m := New(), newModel(1)
		for range 8 {
			line, cond, watch := 1+c.IntN(2), c.text(), c.text()
			x.Break(line, cond)
			m.brk(line, cond)
			x.Watch(watch)
			m.watch(watch)
		}
		p := c.spot()
		expectSame(t, fmt.Sprintf("seed %d: %s", seed, told(x.All())), x, m, p)
		hits := len(p.hits(x, 1)) + len(p.hits(x, 2))
		met, not = met+hits, not+8-hits
		for _, s := range p.watched(x) {
			if s == "?" {
				unknown++
			} else {
				shown++
			}
		}
	}
	if met < 1000 || not < 1000 || shown < 1000 || unknown < 1000 {
		t.Error("too few of a kind:", met, not, shown, unknown)
	}
}

// rightByWords tells what Load is to tell, by the chapter's words, each asked of all stops.
func rightByWords(l []api.Stop, next int) api.Errno {
	m := newModel(1)
	for i, s := range l {
		isBreak := s.Line > 0 && s.Watch == "" && (s.Cond == "" || m.reads(s.Cond) == api.OK)
		isWatch := s.Line == 0 && s.Cond == "" && m.reads(s.Watch) == api.OK
		if s.Id <= 0 || isBreak == isWatch || next <= s.Id {
			return api.ErrFormat
		}
		for _, before := range l[:i] {
			if before.Id >= s.Id {
				return api.ErrFormat
			}
		}
	}
	return first(when(next <= 0, api.ErrFormat), when(next >= 1<<31, api.ErrFormat), when(len(l) >= 17, api.ErrFull))
}

// stops tells stops, most of which are right.
func (c chance) stops() ([]api.Stop, int) {
	var l []api.Stop
	id := one(c, 0, 0, 5, api.MaxId-20)
	for range one(c, 0, 1, 2, 3, 5, 15, 16, 17, 20) {
		id += one(c, 1, 1, 1, 1, 2)
		s := api.Stop{Id: id, Off: c.IntN(2) == 0}
		if c.IntN(2) == 0 {
			s.Line, s.Cond = 1+c.IntN(3), one(c, "", "a", "a > 1")
		} else {
			s.Watch = one(c, "a", "l[0]", "zz")
		}
		l = append(l, s)
	}
	next := id + one(c, 1, 1, 2, 9)
	if c.IntN(12) == 0 {
		next = one(c, id, id-1, 0, -1, api.MaxId, api.MaxId+1, math.MaxInt, math.MinInt)
	}
	if len(l) > 0 && c.IntN(3) == 0 {
		s := &l[c.IntN(len(l))]
		switch c.IntN(4) {
		case 0:
			s.Id = one(c, 0, -1, 1, s.Id-1, s.Id+1, next, math.MaxInt)
		case 1:
			s.Line = c.line()
		case 2:
			s.Cond = c.text()
		case 3:
			s.Watch = c.text()
		}
	}
	return l, next
}

// P14.3, P14.7: what Load tells of many lists.
func TestLoadByChance(t *testing.T) {
	n := tally{}
	for seed := range 15000 {
		c := newChance(3, seed)
		l, next := c.stops()
		want := rightByWords(l, next)
		n.note("Load", want)
		if want != api.OK {
			refuseLoad(t, l, next, want)
			continue
		}
		x, m := mustLoad(t, l, next), newModel(next)
		for _, s := range l {
			m.at[s.Id] = s
		}
		expectSame(t, fmt.Sprintf("seed %d", seed), x, m, here())
		for range 3 {
			what := c.do(t, x, m, n)
			expectSame(t, fmt.Sprintf("seed %d, %s", seed, what), x, m)
		}
		if t.Failed() {
			t.Fatal("seed", seed)
		}
	}
	for _, want := range []string{"Load0", "Load4", "Load12", "Break0", "Break12", "Watch0", "Watch12", "Delete0", "Turn0"} {
		if n[want] < 100 {
			t.Errorf("%s was answered %d times only: %v", want, n[want], n)
		}
	}
}

// Each text that is taken by Break and Watch is an expression's, and each that is refused is none; so it is with any bytes.
func TestAnyBytes(t *testing.T) {
	taken := 0
	for seed := range 20000 {
		c := newChance(4, seed)
		b := make([]byte, 1+c.IntN(5))
		for i := range b {
			b[i] = one(c, byte(c.IntN(256)), 'a', '1', '(', ')', '-', '+', '.', '[', ']', ' ', '"', '\n')
		}
		s := string(b)
		_, _, want := syntax.Expr(s)
		x := New()
		_, byBreak := x.Break(1, s)
		_, byWatch := x.Watch(s)
		if byBreak != want || byWatch != want {
			t.Fatalf("%q: Break %d, Watch %d, not %d", s, byBreak, byWatch, want)
		}
		_, asCond := Load([]api.Stop{{Id: 1, Line: 1, Cond: s}}, 2)
		_, asWatch := Load([]api.Stop{{Id: 1, Watch: s}}, 2)
		if is := when(want != api.OK, api.ErrFormat); asCond != is || asWatch != is {
			t.Fatalf("Load of %q: %d, %d, not %d", s, asCond, asWatch, is)
		}
		if want == api.OK {
			taken++
			expect(t, "how many there are", len(x.All()), 2)
		}
	}
	if taken < 300 {
		t.Error("too few are expressions:", taken)
	}
}
