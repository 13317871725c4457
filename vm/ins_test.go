package vm

import (
	"fmt"
	"math"
	"slices"
	"strconv"
	"strings"
	"testing"

	"hindcast/api"
)

// someHeap has objects of every sort, such as no run makes among them: a tag that is no shape's, and records with fewer and with more cells than their shape has fields.
var someHeap = []api.Obj{
	obj(""), obj("", num(10), num(20)), obj("P", num(5)), obj("Q", boolean(1), txt("t")),
	obj("Z", num(1)), obj("P"), obj("Q", txt("y")), obj("P", ref(7), num(2), num(3)),
}

const someUsed = 8 + 0 + 2 + 1 + 2 + 1 + 0 + 1 + 3

// value reads none, true, a number, a text in ", or a reference as @1.
func value(s string) api.Val {
	switch {
	case s == "none":
		return none
	case s == "true", s == "false":
		return boolean(len("false") - len(s))
	case s[0] == '"':
		text, err := strconv.Unquote(s)
		if err != nil {
			panic(s)
		}
		return txt(text)
	case s[0] == '@':
		n, _ := strconv.Atoi(s[1:])
		return ref(n)
	}
	n, err := strconv.Atoi(s)
	if err != nil {
		panic(s)
	}
	return num(n)
}

var faults = map[string]api.Fault{"div": 1, "index": 2, "size": 3, "text": 4, "input": 5, "heap": 6, "frames": 7, "out": 8, "steps": 9, "kind": 10}

// lone is an instruction that is done by itself, on values that are in a run's slots.
type lone struct {
	ins   string
	taken []api.Val
	puts  bool
}

// under lies on the stack below what the instruction takes.
const under = -77

// code tells a code that takes the values from the slots, does the instruction, and puts what that put into the slot 31, and what lay under it into the slot 30.
func (l lone) code() api.Code {
	s := fmt.Sprint("mark 1; int ", under, ";")
	for n := range l.taken {
		s += fmt.Sprint("load ", n, ";")
	}
	s += l.ins + ";"
	if l.puts {
		s += "store 31;"
	}
	return codeOf(s+"store 30; mark 2; return", unit("two", 2, true, "mark 7; load 0; return 1"), unit("one", 1, false, "mark 9; return"))
}

func (l lone) state(h []api.Obj) api.State {
	slots := make([]api.Val, 32)
	copy(slots, l.taken)
	return cloned(api.State{Calls: []api.Called{{Slots: slots}}, Heap: h})
}

// run does the instruction, and tells the machine behind it.
func (l lone) run(t *testing.T, input []int, lim api.Limits, h []api.Obj) *Machine {
	t.Helper()
	m := mustLoad(t, l.code(), input, lim, l.state(h))
	if !m.Step() {
		t.Fatalf("%v does not go on", l)
	}
	return m
}

// expectPut demands that the instruction is done, and puts a value (none: it puts nothing).
func (l lone) expectPut(t *testing.T, input []int, lim api.Limits, h []api.Obj, want api.Val) api.State {
	t.Helper()
	s := l.run(t, input, lim, h).State()
	if s.Status != api.Running || len(s.Calls) != 1 {
		t.Errorf("%s of %v: status %d, fault %d", l.ins, l.taken, s.Status, s.Fault)
		return s
	}
	expect(t, fmt.Sprint(l.ins, " of ", l.taken), s.Calls[0].Slots[31], want)
	expect(t, fmt.Sprint(l.ins, " of ", l.taken, ": what lay under it"), s.Calls[0].Slots[30], num(under))
	expect(t, fmt.Sprint(l.ins, " of ", l.taken, ": the other slots"), shown(s.Calls[0].Slots[:30]), shown(l.state(h).Calls[0].Slots[:30]))
	return s
}

// expectFault demands that the run ends at the instruction, and that nothing else is changed.
func (l lone) expectFault(t *testing.T, input []int, lim api.Limits, h []api.Obj, want api.Fault) {
	t.Helper()
	s := l.state(h)
	s.Pos, s.Status, s.Fault = 1, api.Faulty, want
	s.Calls[0].At = 2 + len(l.taken)
	s.Calls[0].Stack = append(vals(num(under)), l.taken...)
	expect(t, fmt.Sprint(l.ins, " of ", l.taken, ": the fault"), shown(l.run(t, input, lim, h).State()), shown(s))
}

// expectLines goes through lines of the form "op:A values = value", "op:A values" of what puts nothing, "op:A values ! fault".
func expectLines(t *testing.T, lim api.Limits, lines string) {
	t.Helper()
	for line := range strings.Lines(lines) {
		words := strings.Fields(line)
		if len(words) == 0 {
			continue
		}
		sign := slices.IndexFunc(words, func(s string) bool { return s == "=" || s == "!" })
		values := words[1:]
		if sign > 0 {
			values = words[1:sign]
		}
		l := lone{ins: strings.ReplaceAll(words[0], ":", " "), puts: sign > 0}
		for _, s := range values {
			l.taken = append(l.taken, value(s))
		}
		switch {
		case sign < 0:
			l.expectPut(t, nil, lim, someHeap, none)
		case words[sign] == "=":
			l.expectPut(t, nil, lim, someHeap, value(words[sign+1]))
		default:
			fault, is := faults[words[sign+1]]
			if !is {
				t.Fatalf("the test is wrong: %s", line)
			}
			l.puts = !slices.Contains([]api.Op{api.OpStore, api.OpSetIndex, api.OpSetField, api.OpPrint}, opOf(strings.Fields(l.ins)[0]))
			l.expectFault(t, nil, lim, someHeap, fault)
		}
	}
}

// P9.2 (What instructions do): what is made of numbers and truths, and where the run ends.
func TestNumbers(t *testing.T) {
	expectLines(t, most, `
		int:5 = 5
		int:-9223372036854775808 = -9223372036854775808
		int:9223372036854775807 = 9223372036854775807
		bool:0 = false
		bool:1 = true

		add 1 2 = 3
		add -1 -2 = -3
		add 9223372036854775807 1 = -9223372036854775808
		add -9223372036854775808 -1 = 9223372036854775807
		add -9223372036854775808 -9223372036854775808 = 0
		sub 1 2 = -1
		sub -9223372036854775808 1 = 9223372036854775807
		sub 9223372036854775807 -1 = -9223372036854775808
		sub 0 -9223372036854775808 = -9223372036854775808
		mul 3 -4 = -12
		mul 4294967296 4294967296 = 0
		mul 4294967296 2147483648 = -9223372036854775808
		mul 9223372036854775807 9223372036854775807 = 1
		mul 9223372036854775807 2 = -2
		mul -9223372036854775808 -1 = -9223372036854775808
		neg 5 = -5
		neg 0 = 0
		neg -9223372036854775808 = -9223372036854775808
		neg 9223372036854775807 = -9223372036854775807

		div 7 2 = 3
		div -7 2 = -3
		div 7 -2 = -3
		div -7 -2 = 3
		div 1 2 = 0
		div -1 2 = 0
		div 0 5 = 0
		div -9223372036854775808 -1 = -9223372036854775808
		div -9223372036854775808 1 = -9223372036854775808
		div 9223372036854775807 -1 = -9223372036854775807
		rem 7 2 = 1
		rem -7 2 = -1
		rem 7 -2 = 1
		rem -7 -2 = -1
		rem 6 3 = 0
		rem -6 3 = 0
		rem -9223372036854775808 -1 = 0
		rem 9223372036854775807 -9223372036854775808 = 9223372036854775807
		div 1 0 ! div
		div 0 0 ! div
		div -9223372036854775808 0 ! div
		rem 1 0 ! div
		rem 0 0 ! div

		lt 1 2 = true
		lt 2 2 = false
		lt 3 2 = false
		lt -9223372036854775808 9223372036854775807 = true
		le 1 2 = true
		le 2 2 = true
		le 3 2 = false
		gt 1 2 = false
		gt 2 2 = false
		gt 3 2 = true
		gt -9223372036854775808 9223372036854775807 = false
		ge 1 2 = false
		ge 2 2 = true
		ge 3 2 = true
		not true = false
		not false = true
	`)
}

// P9.2: texts, of which one begins the other, and of just MaxText bytes and one more.
func TestTexts(t *testing.T) {
	expectLines(t, most, `
		str:4 = "ab"
		str:3 = ""
		str:5 = "a\nb"
		add "ab" "cd" = "abcd"
		add "" "" = ""
		add "" "a" = "a"
		add "a" "" = "a"
		lt "a" "ab" = true
		lt "ab" "a" = false
		lt "a" "a" = false
		lt "" "a" = true
		lt "Z" "a" = true
		lt "a" "b" = true
		lt "\n" "~" = true
		lt "10" "9" = true
		le "a" "ab" = true
		le "ab" "a" = false
		le "a" "a" = true
		gt "a" "ab" = false
		gt "ab" "a" = true
		gt "a" "a" = false
		ge "a" "ab" = false
		ge "ab" "a" = true
		ge "a" "a" = true
		len "" = 0
		len "ab" = 2
		len "a\nb" = 3
		show "a\nb" = "a\nb"
		show "\"" = "\""
		show "" = ""
		show 12 = "12"
		show -9223372036854775808 = "-9223372036854775808"
		show true = "true"
		show false = "false"
	`)
	for n := range 256 {
		first, second := strings.Repeat("a", n), strings.Repeat("b", 255-n)
		lone{"add", vals(txt(first), txt(second)), true}.expectPut(t, nil, most, nil, txt(first+second))
		if n > 0 {
			lone{"add", vals(txt(first), txt(second+"c")), true}.expectFault(t, nil, most, nil, api.FaultText)
		}
	}
	most255 := txt(strings.Repeat("x", 255))
	lone{"add", vals(most255, most255), true}.expectFault(t, nil, most, nil, api.FaultText)
	lone{"add", vals(most255, txt("")), true}.expectPut(t, nil, most, nil, most255)
	lone{"len", vals(most255), true}.expectPut(t, nil, most, nil, num(255))
	lone{"show", vals(most255), true}.expectPut(t, nil, most, nil, most255)
	lone{"str 6", nil, true}.expectPut(t, nil, most, nil, txt(strings.Repeat("m", 255)))
}

// P9.2: eq and ne, of one kind and of two.
func TestSame(t *testing.T) {
	expectLines(t, most, `
		eq 1 1 = true
		eq 1 2 = false
		eq true true = true
		eq true false = false
		eq "a" "a" = true
		eq "a" "ab" = false
		eq @1 @1 = true
		eq @0 @1 = false
		eq none none = true
		ne 1 1 = false
		ne 1 2 = true
		ne true true = false
		ne true false = true
		ne "a" "a" = false
		ne "a" "ab" = true
		ne @1 @1 = false
		ne @0 @1 = true
		ne none none = false
	`)
	l := vals(none, num(0), boolean(0), txt(""), ref(0))
	for i, a := range l {
		for k, b := range l {
			lone{"eq", vals(a, b), true}.expectPut(t, nil, most, someHeap, truth(i == k))
			lone{"ne", vals(a, b), true}.expectPut(t, nil, most, someHeap, truth(i != k))
		}
	}
}

// P9.2: cells, at each end and one past it; fields by the shape of the record's tag.
func TestCells(t *testing.T) {
	expectLines(t, most, `
		index @1 0 = 10
		index @1 1 = 20
		index @1 2 ! index
		index @1 -1 ! index
		index @0 0 ! index
		index @0 -1 ! index
		index @3 1 = "t"
		index @4 0 = 1
		index @7 0 = @7
		index @7 2 = 3
		index @7 9223372036854775807 ! index
		index @7 -9223372036854775808 ! index
		setindex @1 2 5 ! index
		setindex @1 -1 5 ! index
		setindex @0 0 5 ! index
		len @0 = 0
		len @1 = 2
		len @2 = 1
		len @4 = 1
		len @5 = 0
		len @7 = 3
		field:0 @2 = 5
		field:0 @3 = "t"
		field:1 @3 = true
		field:0 @7 = @7
		field:1 @6 = "y"
		field:0 @6 ! index
		field:0 @5 ! index
		field:1 @2 ! kind
		field:2 @3 ! kind
		field:3 @3 ! kind
		field:0 @4 ! kind
		field:0 @1 ! kind
		field:0 @0 ! kind
		setfield:0 @6 1 ! index
		setfield:0 @5 1 ! index
		setfield:1 @2 1 ! kind
		setfield:0 @4 1 ! kind
		setfield:0 @1 1 ! kind
		setfield:0 @6 none ! kind
	`)
	for _, c := range []struct {
		ins          string
		taken        []api.Val
		object, cell int
	}{
		{"setindex", vals(ref(1), num(0), num(-3)), 1, 0},
		{"setindex", vals(ref(1), num(1), boolean(0)), 1, 1},
		{"setindex", vals(ref(7), num(2), txt("a\n")), 7, 2},
		{"setindex", vals(ref(3), num(0), ref(3)), 3, 0},
		{"setfield 0", vals(ref(2), txt("")), 2, 0},
		{"setfield 0", vals(ref(3), ref(0)), 3, 1},
		{"setfield 1", vals(ref(3), num(9)), 3, 0},
		{"setfield 1", vals(ref(6), boolean(1)), 6, 0},
		{"setfield 0", vals(ref(7), num(0)), 7, 0},
	} {
		s := lone{c.ins, c.taken, false}.expectPut(t, nil, most, someHeap, none)
		want := lone{}.state(someHeap).Heap
		want[c.object].Cells[c.cell] = c.taken[len(c.taken)-1]
		expect(t, fmt.Sprint(c.ins, c.taken), shown(s.Heap), shown(want))
	}
}

// P9.2: objects that are made, and for which there is no room.
func TestObjects(t *testing.T) {
	for _, c := range []struct {
		ins   string
		taken []api.Val
		want  api.Obj
	}{
		{"array 1", vals(num(1)), obj("", num(1))},
		{"array 3", vals(num(1), txt("a"), ref(7)), obj("", num(1), txt("a"), ref(7))},
		{"new 0", vals(boolean(1)), obj("P", boolean(1))},
		{"new 1", vals(ref(0), num(2)), obj("Q", ref(0), num(2))},
		{"fill", vals(num(0), num(5)), obj("")},
		{"fill", vals(num(1), ref(1)), obj("", ref(1))},
		{"fill", vals(num(3), txt("b")), obj("", txt("b"), txt("b"), txt("b"))},
	} {
		l := lone{c.ins, c.taken, true}
		needs := 1 + len(c.want.Cells)
		for _, room := range []int{4096 - someUsed, needs + 1, needs} {
			lim := most
			lim.Heap = someUsed + room
			s := l.expectPut(t, nil, lim, someHeap, ref(8))
			expect(t, fmt.Sprint(c.ins, c.taken), shown(s.Heap), shown(append(slices.Clone(someHeap), c.want)))
		}
		for _, room := range []int{needs - 1, 0} {
			lim := most
			lim.Heap = someUsed + room
			l.expectFault(t, nil, lim, someHeap, api.FaultHeap)
		}
	}
	expectLines(t, most, `
		fill -1 5 ! size
		fill -9223372036854775808 5 ! size
		fill 4097 5 ! size
		fill 9223372036854775807 5 ! size
		fill 4096 5 ! heap
		fill 4078 5 ! heap
	`)
	lone{"fill", vals(num(4095), num(1)), true}.expectPut(t, nil, most, nil, ref(0))
	lone{"fill", vals(num(4096), num(1)), true}.expectFault(t, nil, most, nil, api.FaultHeap)
	lone{"fill", vals(num(4097), num(1)), true}.expectFault(t, nil, most, nil, api.FaultSize)
	noRoom := api.Limits{Steps: 9, Frames: 1}
	lone{"fill", vals(num(0), num(1)), true}.expectFault(t, nil, noRoom, nil, api.FaultHeap)
	lone{"fill", vals(num(-1), num(1)), true}.expectFault(t, nil, noRoom, nil, api.FaultSize)
	lone{"fill", vals(num(4097), num(1)), true}.expectFault(t, nil, noRoom, nil, api.FaultSize)
	full := "mark 1; " + times(256, "int 7") + "array 256; store 0; mark 2; return"
	s := end(t, codeOf(full), nil, api.Limits{Steps: 9, Heap: 257, Frames: 1})
	expect(t, "an array of a whole stack", shown(s.Heap), shown([]api.Obj{obj("", slices.Repeat(vals(num(7)), 256)...)}))
}

// P9.2: FaultKind, of each instruction with a value of each kind that it does not take.
func TestKinds(t *testing.T) {
	kinds := map[byte]string{'n': "1", 't': "true", 's': `"1"`, 'r': "@2", '-': "none"}
	for _, c := range []struct{ ins, takes string }{
		{"add", "nn ss"}, {"sub", "nn"}, {"mul", "nn"}, {"div", "nn"}, {"rem", "nn"}, {"neg", "n"}, {"not", "t"},
		{"lt", "nn ss"}, {"le", "nn ss"}, {"gt", "nn ss"}, {"ge", "nn ss"},
		{"array 1", "n t s r"}, {"new 0", "n t s r"}, {"fill", "nn nt ns nr"},
		{"index", "rn"}, {"setindex", "rnn rnt rns rnr"}, {"field 0", "r"}, {"setfield 0", "rn rt rs rr"}, {"len", "r s"}, {"show", "n t s"},
	} {
		takes := strings.Fields(c.takes)
		l := lone{ins: c.ins, puts: !strings.HasPrefix(c.ins, "set")}
		for n := range int(math.Pow(5, float64(len(takes[0])))) {
			given := ""
			l.taken = nil
			for range takes[0] {
				k := "ntsr-"[n%5]
				given += string(k)
				l.taken = append(l.taken, value(kinds[k]))
				n /= 5
			}
			m := l.run(t, nil, most, someHeap)
			if slices.Contains(takes, given) {
				if f := m.State().Fault; f != api.NoFault && f != api.FaultIndex {
					t.Errorf("%s of %v: fault %d", c.ins, l.taken, f)
				}
				continue
			}
			l.expectFault(t, nil, most, someHeap, api.FaultKind)
		}
	}
}

// P9.2: FaultKind comes ahead of every other fault of the same instruction.
func TestKindFirst(t *testing.T) {
	expectLines(t, api.Limits{Steps: 9, Heap: someUsed, Frames: 1}, `
		div "1" 0 ! kind
		div true 0 ! kind
		div @0 0 ! kind
		div none 0 ! kind
		rem "1" 0 ! kind
		rem none 0 ! kind
		index @0 true ! kind
		index @0 none ! kind
		index 5 7 ! kind
		index "abc" 7 ! kind
		setindex @0 7 none ! kind
		setindex @0 -1 none ! kind
		setindex @0 "0" 1 ! kind
		setindex 0 7 1 ! kind
		setfield:0 @5 none ! kind
		setfield:0 @6 none ! kind
		setfield:2 @6 none ! kind
		array:1 none ! kind
		array:1 5 ! heap
		array:3 1 2 none ! kind
		array:3 none 2 3 ! kind
		array:3 1 2 3 ! heap
		new:0 none ! kind
		new:1 1 none ! kind
		new:1 none 1 ! kind
		new:1 1 1 ! heap
		fill -1 none ! kind
		fill 4097 none ! kind
		fill 4096 none ! kind
		fill 1 none ! kind
		fill 0 none ! kind
		fill "" 1 ! kind
		fill none none ! kind
		fill -1 1 ! size
		fill 0 1 ! heap
	`)
	long := txt(strings.Repeat("x", 255))
	lone{"add", vals(long, num(1)), true}.expectFault(t, nil, most, nil, api.FaultKind)
	lone{"add", vals(num(1), long), true}.expectFault(t, nil, most, nil, api.FaultKind)
	lone{"add", vals(long, none), true}.expectFault(t, nil, most, nil, api.FaultKind)
}

// P9.2: load, store, pop, call and return take what there is, none too.
func TestTakeAny(t *testing.T) {
	for _, v := range vals(none, num(-3), boolean(1), txt("a b"), ref(3)) {
		lone{"store 31; load 31", vals(v), true}.expectPut(t, nil, most, someHeap, v)
		lone{"pop", vals(v), false}.expectPut(t, nil, most, someHeap, none)
		lone{"pop", vals(v, num(1)), true}.expectPut(t, nil, most, someHeap, v)
		m := lone{"call 1", vals(v, num(1)), true}.run(t, nil, most, someHeap)
		x := m.State().Calls
		expect(t, "calls", len(x), 2)
		expect(t, "arguments", shown(x[1].Slots), shown(append(vals(v, num(1)), make([]api.Val, 30)...)))
		expect(t, "the caller's stack", shown(x[0].Stack), shown(vals(num(under))))
		m.Step()
		expect(t, "the result", m.State().Calls[0].Slots[31], v)
		expect(t, "what lay under it", m.State().Calls[0].Slots[30], num(under))
	}
	// A slot that had a value may become none.
	m := mustNew(t, codeOf("mark 1; int 5; store 0; load 1; store 0; mark 2; return"), nil, most)
	m.Step()
	expect(t, "a slot", m.State().Calls[0].Slots[0], none)
}

// P9.2: unless takes a truth, and leads elsewhere if it is false; jump leads elsewhere.
func TestJumps(t *testing.T) {
	main := "mark 1; load 0; unless 5; int 1; jump 6; int 2; store 1; mark 2; return"
	c := codeOf(main)
	for _, v := range vals(boolean(0), boolean(1), num(1), num(0), txt("true"), ref(0), none) {
		s := api.State{Calls: []api.Called{{Slots: append(vals(v), make([]api.Val, 31)...)}}, Heap: []api.Obj{obj("")}}
		m := mustLoad(t, c, nil, most, s)
		expect(t, "Step", m.Step(), true)
		got := m.State()
		if v.Kind == api.VBool {
			expect(t, fmt.Sprint("unless ", v), got.Calls[0].Slots[1], num(2-v.N))
			expect(t, fmt.Sprint("unless ", v, ": where"), got.Calls[0].At, 7)
			continue
		}
		expect(t, fmt.Sprint("unless ", v), got.Fault, api.FaultKind)
		expect(t, fmt.Sprint("unless ", v, ": where"), got.Calls[0].At, 2)
		expect(t, fmt.Sprint("unless ", v, ": the stack"), shown(got.Calls[0].Stack), shown(vals(v)))
	}
}

// P9.2: input, and behind its last number.
func TestInput(t *testing.T) {
	c := codeOf("mark 1; input; store 0; jump 0")
	m := mustNew(t, c, []int{7, -8, math.MinInt}, most)
	for n, want := range []int{7, -8, math.MinInt} {
		m.Step()
		expect(t, "a number", m.State().Calls[0].Slots[0], num(want))
		expect(t, "how many were read", m.State().Read, n+1)
	}
	expect(t, "Step", m.Step(), true)
	s := m.State()
	expect(t, "the fault", s.Fault, api.FaultInput)
	expect(t, "where", s.Calls[0].At, 1)
	expect(t, "how many were read", s.Read, 3)
	expect(t, "the position", s.Pos, 4)
	lone{"input", nil, true}.expectPut(t, []int{5}, most, nil, num(5))
	lone{"input", nil, true}.expectFault(t, nil, most, nil, api.FaultInput)
}

// P9.2: print, of one value and several, of each kind, and of just Out bytes and one more.
func TestPrint(t *testing.T) {
	for _, c := range []struct {
		taken []api.Val
		want  string
	}{
		{vals(num(-5)), "-5\n"},
		{vals(boolean(1)), "true\n"},
		{vals(txt("")), "\n"},
		{vals(txt("a\"\n")), "a\"\n\n"},
		{vals(none), "none\n"},
		{vals(ref(0)), "[]\n"},
		{vals(ref(3)), "Q(true, \"t\")\n"},
		{vals(ref(7)), "P(P(..., 2, 3), 2, 3)\n"},
		{vals(num(1), txt("a b"), none, boolean(0), ref(1)), "1 a b none false [10, 20]\n"},
		{vals(txt(""), txt(""), txt("")), "  \n"},
	} {
		l := lone{fmt.Sprint("print ", len(c.taken)), c.taken, false}
		for _, out := range []int{4096, len(c.want) + 1, len(c.want)} {
			lim := most
			lim.Out = out
			expect(t, fmt.Sprint("print ", c.taken), l.expectPut(t, nil, lim, someHeap, none).Out, c.want)
		}
		for _, out := range []int{len(c.want) - 1, 0} {
			lim := most
			lim.Out = out
			l.expectFault(t, nil, lim, someHeap, api.FaultOut)
		}
	}
	long := obj("", slices.Repeat(vals(txt(strings.Repeat("w", 50))), 8)...)
	s := lone{"print 2", vals(ref(0), ref(0)), false}.expectPut(t, nil, most, []api.Obj{long}, none)
	expect(t, "a print of long values", len(s.Out), 200+1+200+1)

	c := codeOf("mark 1; str 4; print 1; jump 0")
	for out := range 10 {
		lim := most
		lim.Out = out
		s := end(t, c, nil, lim)
		expect(t, "the fault", s.Fault, api.FaultOut)
		expect(t, fmt.Sprint("the output of at most ", out), s.Out, strings.Repeat("ab\n", out/3))
		expect(t, "where", s.Calls[0].At, 2)
		expect(t, "the stack", shown(s.Calls[0].Stack), shown(vals(txt("ab"))))
	}
	whole := codeOf("mark 1; " + times(16, "str 6; print 1") + "mark 2; str 3; print 1; return")
	s = end(t, whole, nil, most)
	expect(t, "the output of just MaxOut bytes", len(s.Out), 4096)
	expect(t, "the fault behind it", s.Fault, api.FaultOut)
}

// P9.2: each instruction, with values of each kind and at their edges, held against the chapter's words.
func TestEachInstruction(t *testing.T) {
	t.Parallel()
	long := strings.Repeat("l", 255)
	all := vals(none, num(0), num(1), num(-1), num(2), num(4096), num(4097), num(math.MinInt), num(math.MaxInt), boolean(0), boolean(1), txt(""), txt("a"), txt("ab"), txt(long), txt(long[:254]), ref(0), ref(1), ref(2), ref(3), ref(4), ref(5), ref(6), ref(7))
	few := vals(none, num(0), num(2), num(-1), boolean(1), txt("a"), ref(1), ref(3), ref(7))
	lims := []api.Limits{most, {Steps: 9, Heap: someUsed, Frames: 2, Out: 3}, {Steps: 9, Heap: someUsed + 2, Frames: 1, Out: 30}}
	for _, c := range []struct {
		ins         string
		takes, puts int
	}{
		{"int 5", 0, 1}, {"bool 1", 0, 1}, {"str 4", 0, 1}, {"load 31", 0, 1}, {"store 29", 1, 0}, {"pop", 1, 0},
		{"add", 2, 1}, {"sub", 2, 1}, {"mul", 2, 1}, {"div", 2, 1}, {"rem", 2, 1}, {"neg", 1, 1}, {"not", 1, 1},
		{"eq", 2, 1}, {"ne", 2, 1}, {"lt", 2, 1}, {"le", 2, 1}, {"gt", 2, 1}, {"ge", 2, 1},
		{"call 1", 2, 1}, {"call 2", 1, 0}, {"array 1", 1, 1}, {"array 2", 2, 1}, {"new 0", 1, 1}, {"new 1", 2, 1},
		{"index", 2, 1}, {"setindex", 3, 0}, {"field 0", 1, 1}, {"field 1", 1, 1}, {"field 2", 1, 1}, {"setfield 0", 2, 0}, {"setfield 1", 2, 0}, {"setfield 2", 2, 0},
		{"len", 1, 1}, {"show", 1, 1}, {"fill", 2, 1}, {"input", 0, 1}, {"print 1", 1, 0}, {"print 2", 2, 0},
	} {
		values := all
		if c.takes == 3 {
			values = few
		}
		l := lone{ins: c.ins, taken: make([]api.Val, c.takes), puts: c.puts == 1}
		code := rightCode(t, l.code())
		for n := range int(math.Pow(float64(len(values)), float64(c.takes))) {
			for k := range l.taken {
				l.taken[k] = values[n%len(values)]
				n /= len(values)
			}
			for _, lim := range lims {
				s := l.state(someHeap)
				m, err := Load(code, []int{3}, lim, s)
				if err != api.OK {
					t.Fatalf("%v: error %d", l, err)
				}
				m.Step()
				expectState(t, fmt.Sprint(c.ins, l.taken, lim), code, m, stepByWords(code, []int{3}, lim, s))
			}
		}
		if t.Failed() {
			return
		}
	}
}
