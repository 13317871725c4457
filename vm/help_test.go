package vm

import (
	"fmt"
	"reflect"
	"slices"
	"strconv"
	"strings"
	"testing"

	"hindcast/api"
	"hindcast/code"
	"hindcast/compile"
)

func expect[T comparable](t *testing.T, what string, got, want T) {
	t.Helper()
	if got != want {
		t.Errorf("%.400s:\n got %v\nwant %v", what, got, want)
	}
}

var none api.Val

func num(n int) api.Val     { return api.Val{Kind: api.VInt, N: n} }
func boolean(n int) api.Val { return api.Val{Kind: api.VBool, N: n} }
func txt(s string) api.Val  { return api.Val{Kind: api.VStr, S: s} }
func ref(n int) api.Val     { return api.Val{Kind: api.VRef, N: n} }

func vals(l ...api.Val) []api.Val { return l }

func obj(tag string, cells ...api.Val) api.Obj { return api.Obj{Tag: tag, Cells: cells} }

// most are the greatest limits that may be, but for the positions, of which a test has few.
var most = api.Limits{Steps: 1000, Heap: 4096, Frames: 64, Out: 4096}

const opNames = " mark int bool str load store pop add sub mul div rem neg not eq ne lt le gt ge jump unless call return array new index setindex field setfield len show fill input print "

func opOf(name string) api.Op {
	ahead, _, is := strings.Cut(opNames, " "+name+" ")
	if !is {
		panic("no op: " + name)
	}
	return api.Op(strings.Count(ahead, " "))
}

// asm tells the instructions of a text: op names, each with its A behind it, unless that is 0, parted by semicolons.
func asm(s string) []api.Ins {
	var l []api.Ins
	for part := range strings.SplitSeq(s, ";") {
		words := strings.Fields(part)
		if len(words) == 0 {
			continue
		}
		i := api.Ins{Op: opOf(words[0])}
		if len(words) > 1 {
			i.A, _ = strconv.Atoi(words[1])
		}
		l = append(l, i)
	}
	return l
}

// times tells a text of so many times an instruction.
func times(n int, s string) string { return strings.Repeat(s+";", n) }

// unit tells a unit of a text, with as many slots and as much stack as there may be.
func unit(name string, params int, result bool, s string) api.Unit {
	return api.Unit{Name: name, Params: params, Slots: 32, Stack: 256, Result: result, Ins: asm(s)}
}

// someStrs, someShapes are those of the codes that tests make. Of the texts the first are fields.
var (
	someStrs   = []string{"x", "y", "z", "", "ab", "a\nb", strings.Repeat("m", 255)}
	someShapes = []api.Shape{{Name: "P", Fields: []string{"x"}}, {Name: "Q", Fields: []string{"y", "x"}}}
)

// codeOf tells a code of main's text, and of further units.
func codeOf(main string, others ...api.Unit) api.Code {
	return api.Code{Strs: someStrs, Shapes: someShapes, Units: append([]api.Unit{unit("main", 0, false, main)}, others...)}
}

func rightCode(t *testing.T, c api.Code) api.Code {
	t.Helper()
	if code.Check(c) != api.OK {
		t.Fatalf("the test is wrong: no right code: %.600s", shown(c.Units))
	}
	return c
}

func mustNew(t *testing.T, c api.Code, input []int, lim api.Limits) *Machine {
	t.Helper()
	rightCode(t, c)
	m, err := New(c, input, lim)
	if err != api.OK || m == nil {
		t.Fatalf("New(%.300s, %v, %v): error %d, or no machine", shown(c), input, lim, err)
	}
	return m
}

func mustLoad(t *testing.T, c api.Code, input []int, lim api.Limits, s api.State) *Machine {
	t.Helper()
	rightCode(t, c)
	m, err := Load(c, input, lim, s)
	if err != api.OK || m == nil {
		t.Fatalf("Load(%.300s, %v, %v, %v): error %d, or no machine", shown(c), input, lim, s, err)
	}
	return m
}

func mustCompile(t *testing.T, s string) api.Code {
	t.Helper()
	c, line, err := compile.Source(s)
	if err != api.OK {
		t.Fatalf("the test is wrong: error %d in line %d of\n%s", err, line, s)
	}
	return c
}

func expectNoNew(t *testing.T, what string, c api.Code, input []int, lim api.Limits) {
	t.Helper()
	if m, err := New(c, input, lim); m != nil || err != api.ErrArg {
		t.Errorf("%s: New: error %d, or a machine", what, err)
	}
	for _, s := range []api.State{{}, {Status: api.Done}} {
		if m, err := Load(c, input, lim, s); m != nil || err != api.ErrArg {
			t.Errorf("%s: Load: error %d, or a machine", what, err)
		}
	}
}

func expectNoLoad(t *testing.T, what string, c api.Code, input []int, lim api.Limits, s api.State) {
	t.Helper()
	if m, err := Load(c, input, lim, s); m != nil || err != api.ErrFormat {
		t.Errorf("%s: Load(%v): error %d, or a machine", what, s, err)
	}
}

// shown puts what is told into one text, in which nil and the empty list are the same.
func shown(x any) string {
	var b strings.Builder
	show(&b, reflect.ValueOf(x))
	return b.String()
}

func show(b *strings.Builder, v reflect.Value) {
	switch v.Kind() {
	case reflect.Struct:
		b.WriteString("{")
		for i := range v.NumField() {
			b.WriteString(v.Type().Field(i).Name + ":")
			show(b, v.Field(i))
			b.WriteString(" ")
		}
		b.WriteString("}")
	case reflect.Slice:
		b.WriteString("[")
		for i := range v.Len() {
			show(b, v.Index(i))
			b.WriteString(" ")
		}
		b.WriteString("]")
	case reflect.Int:
		b.WriteString(strconv.FormatInt(v.Int(), 10))
	case reflect.String:
		b.WriteString(strconv.Quote(v.String()))
	default:
		fmt.Fprint(b, v.Interface())
	}
}

// expectState holds all that a machine tells against a state, and what the chapter's words make of that.
func expectState(t *testing.T, what string, c api.Code, m *Machine, want api.State) {
	t.Helper()
	expect(t, what+": State", shown(m.State()), shown(want))
	expect(t, what+": Look", shown(m.Look()), shown(lookByWords(c, want)))
	expect(t, what+": Heap", shown(m.Heap().All()), shown(want.Heap))
}

// expectRun goes through a run, position by position, and holds it against the chapter's words: all that is told, at each position, of the machine, of one that is loaded of its state, and of a copy. It tells the positions.
func expectRun(t *testing.T, what string, c api.Code, input []int, lim api.Limits) []api.State {
	t.Helper()
	m := mustNew(t, c, input, lim)
	return expectFrom(t, what, c, input, lim, m, beginByWords(c, input, lim))
}

func expectFrom(t *testing.T, what string, c api.Code, input []int, lim api.Limits, m *Machine, s api.State) []api.State {
	t.Helper()
	all := []api.State{s}
	for ; !t.Failed(); all = append(all, s) {
		expectState(t, fmt.Sprint(what, ": position ", s.Pos), c, m, s)
		other := mustLoad(t, c, input, lim, m.State())
		expectState(t, fmt.Sprint(what, ": loaded at ", s.Pos), c, other, s)
		ended := s.Status != api.Running
		if !ended {
			s = stepByWords(c, input, lim, s)
		}
		expect(t, what+": a loaded machine's Step", other.Step(), !ended)
		expectState(t, fmt.Sprint(what, ": loaded, and gone on to ", s.Pos), c, other, s)
		other = m.Copy()
		expect(t, what+": a copy's Step", other.Step(), !ended)
		expectState(t, fmt.Sprint(what, ": copied, and gone on to ", s.Pos), c, other, s)
		expect(t, what+": Step", m.Step(), !ended)
		if ended {
			expectState(t, what+": the end, gone on", c, m, s)
			break
		}
	}
	return all
}

// end tells how a run of a code ends.
func end(t *testing.T, c api.Code, input []int, lim api.Limits) api.State {
	t.Helper()
	m := mustNew(t, c, input, lim)
	m.Run(lim.Steps)
	return m.State()
}

func innermost(s api.State) api.Called { return s.Calls[len(s.Calls)-1] }

// cloned tells a state that shares no list with another.
func cloned(s api.State) api.State {
	s.Calls, s.Heap = slices.Clone(s.Calls), slices.Clone(s.Heap)
	for i := range s.Calls {
		s.Calls[i].Slots, s.Calls[i].Stack = slices.Clone(s.Calls[i].Slots), slices.Clone(s.Calls[i].Stack)
	}
	for i := range s.Heap {
		s.Heap[i].Cells = slices.Clone(s.Heap[i].Cells)
	}
	return s
}

// changed tells a state with something done to it.
func changed(s api.State, do func(s *api.State)) api.State {
	s = cloned(s)
	do(&s)
	return s
}
