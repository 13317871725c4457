package eval

import (
	"slices"
	"strings"
	"testing"
	"unsafe"

	"hindcast/api"
	"hindcast/syntax"
)

// withRoom tells a list with room behind its end, in which others stand.
func withRoom[T any](l []T, other T) []T {
	return slices.Concat(l, []T{other, other, other})[:len(l)]
}

func roomyExpr(x api.Expr) api.Expr {
	x.Kids = withRoom(x.Kids, api.Expr{Kind: 99})
	for i, k := range x.Kids {
		x.Kids[i] = roomyExpr(k)
	}
	return x
}

func wholeExpr(x api.Expr) string {
	s := shown(x) + shown(x.Kids[:cap(x.Kids)])
	for _, k := range x.Kids {
		s += wholeExpr(k)
	}
	return s
}

// roomy tells the same spot, its lists with room.
func roomy(s spot) spot {
	s.vars, s.shapes = withRoom(s.vars, named("behind", ref(99))), withRoom(s.shapes, shape("P", "x", "behind"))
	for i, x := range s.shapes {
		s.shapes[i].Fields = withRoom(x.Fields, "behind")
	}
	return s
}

func wholeSpot(s spot) string {
	w := shown(s.vars[:cap(s.vars)]) + shown(s.shapes[:cap(s.shapes)])
	for _, x := range s.shapes {
		w += shown(x.Fields[:cap(x.Fields)])
	}
	return w
}

// exprText tells an expression's text; none, if it has none.
func exprText(x api.Expr) string {
	s, _ := syntax.PrintExpr(x)
	return s
}

// P13.3: nothing that is handed in is changed, nor what stands behind the lists' ends, and what stands there is nothing to an answer.
func TestStill(t *testing.T) {
	fine, bad := 0, 0
	for seed := range uint64(5000) {
		c := newChance(3, seed)
		plain := c.spot()
		if seed < 50 {
			plain = here()
		}
		x := c.expr(1 + c.IntN(5))
		s, y := roomy(plain), roomyExpr(x)
		h := s.heap()
		used, all := h.Used(), shown(h.All())
		was, wasExpr := wholeSpot(s), wholeExpr(y)
		v, err := Eval(y, s.vars, h, s.shapes)
		text := ""
		if err == api.OK {
			fine++
			text = h.Show(v)
		} else {
			bad++
		}
		want, why := plain.eval(x)
		expect(t, "what it comes to", v, want)
		expect(t, "what is wrong", err, why)
		for range 2 {
			v, err = Eval(y, s.vars, h, s.shapes)
			expect(t, "what it comes to again", v, want)
			expect(t, "what is wrong again", err, why)
		}
		if written := exprText(y); written != "" {
			got, err := Text(written, s.vars, h, s.shapes)
			expect(t, "how it is shown", got, text)
			expect(t, "what is wrong", err, why)
		}
		expect(t, "the spot", wholeSpot(s), was)
		expect(t, "the expression", wholeExpr(y), wasExpr)
		expect(t, "what the heap uses", h.Used(), used)
		expect(t, "the heap", shown(h.All()), all)
		if t.Failed() {
			t.Fatal("seed", seed)
		}
	}
	if fine < 500 || bad < 500 {
		t.Error("too few of either:", fine, bad)
	}
}

// What is told does not hang on what is done to the heap, the variables, the shapes and the expression later.
func TestToldStays(t *testing.T) {
	s := here()
	h := s.heap()
	x := read("p")
	v, _ := Eval(x, s.vars, h, s.shapes)
	text, _ := Text("p.s + s", s.vars, h, s.shapes)
	h.Set(ref(1), 1, txt("other"))
	clear(s.vars)
	clear(s.shapes)
	x.S = "a"
	expect(t, "a value", v, ref(1))
	expect(t, "a text", text, `"qab"`)
	got, err := Text("p.s", here().vars, h, here().shapes)
	expect(t, "what is set is told", got, `"other"`)
	expect(t, "what is set is told", err, api.OK)
}

// within tells whether a text shares memory with another one.
func within(x, s string) bool {
	if x == "" || s == "" {
		return false
	}
	p, from := uintptr(unsafe.Pointer(unsafe.StringData(x))), uintptr(unsafe.Pointer(unsafe.StringData(s)))
	return from <= p && p < from+uintptr(len(s))
}

// An answer is new memory: it shares none with the expression, a variable, or another answer.
func TestNewMemory(t *testing.T) {
	given := strings.Repeat("g", 100)
	s := spot{vars: []api.Bind{named("v", txt(given)), named("r", ref(0))}, objects: []api.Obj{obj("P", txt(given))}, shapes: []api.Shape{shape("P", "x")}}
	h := s.heap()
	lit := api.Expr{Kind: api.EStr, S: given}
	call := func(k api.Expr) api.Expr { return api.Expr{Kind: api.ECall, S: "str", Kids: kids(k)} }
	add := func(a, b api.Expr) api.Expr { return api.Expr{Kind: api.EBinary, S: "+", Kids: kids(a, b)} }
	empty := api.Expr{Kind: api.EStr}
	for _, x := range []api.Expr{lit, read("v"), read("r.x"), call(lit), call(read("v")), add(lit, empty), add(empty, lit), add(read("v"), empty), add(empty, read("v")), call(call(read("r.x")))} {
		v, err := Eval(x, s.vars, h, s.shapes)
		again, _ := Eval(x, s.vars, h, s.shapes)
		if err != api.OK || v.S != given {
			t.Fatalf("%s: %s, error %d", shown(x), shown(v), err)
		}
		if within(v.S, given) {
			t.Errorf("%s shares memory with what was handed in", shown(x))
		}
		if within(v.S, again.S) {
			t.Errorf("%s is told twice in the same memory", shown(x))
		}
	}
	source := `"` + given + `"`
	one, _ := Text(source, nil, h, nil)
	two, _ := Text(source, nil, h, nil)
	if one != source || within(one, source) || within(one, two) {
		t.Error("a text shares memory", one)
	}
}
