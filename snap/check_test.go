package snap

import (
	"fmt"
	"math"
	"slices"
	"strings"
	"testing"

	"hindcast/api"
)

// P10.1, P10.2: numbers at the edges that the chapter names, and far from them.
func TestNumbers(t *testing.T) {
	for _, x := range []struct {
		what        string
		least, most int
		set         func(s *api.State, n int)
	}{
		{"Pos", 0, math.MaxInt, func(s *api.State, n int) { s.Pos = n }},
		{"Read", 0, math.MaxInt, func(s *api.State, n int) { s.Read = n }},
		{"Status", 0, 2, func(s *api.State, n int) { s.Status = api.Status(n) }},
		{"Fault", 0, 10, func(s *api.State, n int) { s.Fault = api.Fault(n) }},
		{"Unit", 0, math.MaxInt, func(s *api.State, n int) { s.Calls[1].Unit = n }},
		{"At", 0, math.MaxInt, func(s *api.State, n int) { s.Calls[1].At = n }},
		{"Mark", -1, math.MaxInt, func(s *api.State, n int) { s.Calls[1].Mark = n }},
		{"the outermost's Unit", 0, math.MaxInt, func(s *api.State, n int) { s.Calls[0].Unit = n }},
		{"the innermost's At", 0, math.MaxInt, func(s *api.State, n int) { s.Calls[2].At = n }},
		{"the innermost's Mark", -1, math.MaxInt, func(s *api.State, n int) { s.Calls[2].Mark = n }},
	} {
		far := []int{math.MinInt, math.MinInt + 1, -1 << 32, 1 << 32, 1<<32 + 1, math.MaxInt - 1, math.MaxInt}
		near := make([]int, 0, 20)
		for n := -4; n < 16; n++ {
			near = append(near, n)
		}
		for _, n := range append(near, far...) {
			s := changed(full(), func(s *api.State) { x.set(s, n) })
			expectState(t, fmt.Sprint(x.what, " ", n), s, x.least <= n && n <= x.most)
		}
	}
}

// P10.1: a state may be told that no run comes to: what goes with what is not asked.
func TestNoRuns(t *testing.T) {
	for status := range api.Status(3) {
		for fault := range api.Fault(11) {
			expectState(t, fmt.Sprint("no calls, status ", status, ", fault ", fault), api.State{Status: status, Fault: fault}, true)
			s := changed(full(), func(s *api.State) { s.Status, s.Fault = status, fault })
			expectState(t, fmt.Sprint("calls, status ", status, ", fault ", fault), s, true)
		}
	}
	s := changed(full(), func(s *api.State) { s.Calls[0].At, s.Calls[0].Mark = 1, 1000 })
	expectState(t, "a Mark behind At", s, true)
}

// P10.1: as many as there may be of what has a limit, and one more.
func TestMost(t *testing.T) {
	calls := func(n int) []api.Called { return slices.Repeat([]api.Called{{Mark: -1}}, n) }
	numbers := func(n int) []api.Val { return slices.Repeat(vals(num(5)), n) }
	objects := func(n int) []api.Obj { return slices.Repeat([]api.Obj{{Tag: "P"}}, n) }
	for _, x := range []struct {
		what string
		most int
		set  func(s *api.State, n int)
	}{
		{"calls", 64, func(s *api.State, n int) { s.Calls = calls(n) }},
		{"the first one's slots", 32, func(s *api.State, n int) { s.Calls[0].Slots = numbers(n) }},
		{"the last one's slots", 32, func(s *api.State, n int) { s.Calls[2].Slots = make([]api.Val, n) }},
		{"the first one's stack", 256, func(s *api.State, n int) { s.Calls[0].Stack = make([]api.Val, n) }},
		{"the last one's stack", 256, func(s *api.State, n int) { s.Calls[2].Stack = numbers(n) }},
		{"objects", 4096, func(s *api.State, n int) { s.Heap, s.Calls = objects(n), nil }},
		{"one object's cells", 4095, func(s *api.State, n int) { s.Heap, s.Calls = []api.Obj{obj("", numbers(n)...)}, nil }},
		{"two objects' cells", 4094, func(s *api.State, n int) {
			s.Heap, s.Calls = []api.Obj{obj("P", numbers(n/2)...), obj("", numbers(n-n/2)...)}, nil
		}},
		{"objects with a cell each", 2048, func(s *api.State, n int) {
			s.Heap, s.Calls = slices.Repeat([]api.Obj{obj("", truth(1))}, n), nil
		}},
		{"bytes of Out", 4096, func(s *api.State, n int) { s.Out = strings.Repeat("\x80", n) }},
	} {
		for _, n := range []int{0, 1, 2, x.most - 1, x.most, x.most + 1, x.most + 2, 2*x.most + 2} {
			s := changed(full(), func(s *api.State) { x.set(s, n) })
			expectState(t, fmt.Sprint(n, " ", x.what), s, n <= x.most)
		}
	}
	expectState(t, "the most of everything", biggest(), true)
}

// P10.1, P10.2: what has a limit has it everywhere, also where all else is at its limit.
func TestMostAndMore(t *testing.T) {
	for what, more := range map[string]func(s *api.State){
		"calls":   func(s *api.State) { s.Calls = append(s.Calls, api.Called{}) },
		"slots":   func(s *api.State) { s.Calls[63].Slots = append(s.Calls[63].Slots, none) },
		"stack":   func(s *api.State) { s.Calls[63].Stack = append(s.Calls[63].Stack, none) },
		"objects": func(s *api.State) { s.Heap = append(s.Heap, api.Obj{}) },
		"cells":   func(s *api.State) { s.Heap[2047].Cells = append(s.Heap[2047].Cells, num(0)) },
		"Out":     func(s *api.State) { s.Out += "a" },
		"a text":  func(s *api.State) { s.Calls[63].Stack[255].S += "~" },
		"a tag":   func(s *api.State) { s.Heap[2047].Tag += "a" },
	} {
		expectState(t, "one more: "+what, changed(biggest(), more), false)
	}
}

// valued are values, among three objects, which of them are right, and which may be cells.
var valued = []struct {
	v        api.Val
	is, cell bool
}{
	{none, true, false},
	{api.Val{N: 1}, false, false},
	{api.Val{S: "a"}, false, false},
	{num(0), true, true},
	{num(1), true, true},
	{num(-1), true, true},
	{num(math.MaxInt), true, true},
	{num(math.MinInt), true, true},
	{api.Val{Kind: api.VInt, N: 1, S: "a"}, false, false},
	{truth(0), true, true},
	{truth(1), true, true},
	{truth(2), false, false},
	{truth(-1), false, false},
	{truth(1 << 32), false, false},
	{api.Val{Kind: api.VBool, N: 1, S: "a"}, false, false},
	{txt(""), true, true},
	{txt(" ~\"\\\n"), true, true},
	{txt(strings.Repeat("a", 255)), true, true},
	{txt(strings.Repeat("\\", 255)), true, true},
	{txt(strings.Repeat("a", 256)), false, false},
	{txt("\x1f"), false, false},
	{txt("\x7f"), false, false},
	{txt("a\x00"), false, false},
	{txt("\t"), false, false},
	{txt("\xc3\xa4"), false, false},
	{txt(strings.Repeat("\xff", 255)), false, false},
	{api.Val{Kind: api.VStr, N: 1, S: "a"}, false, false},
	{api.Val{Kind: api.VStr, N: -1}, false, false},
	{ref(0), true, true},
	{ref(2), true, true},
	{ref(3), false, false},
	{ref(-1), false, false},
	{ref(math.MaxInt), false, false},
	{ref(math.MinInt), false, false},
	{api.Val{Kind: api.VRef, N: 1, S: "a"}, false, false},
	{api.Val{Kind: 5}, false, false},
	{api.Val{Kind: 5, N: 1}, false, false},
	{api.Val{Kind: 5, S: "a"}, false, false},
	{api.Val{Kind: -1}, false, false},
	{api.Val{Kind: -1, N: 1}, false, false},
	{api.Val{Kind: 1<<32 + api.VInt, N: 1}, false, false},
	{api.Val{Kind: math.MaxInt}, false, false},
	{api.Val{Kind: math.MinInt}, false, false},
}

// P10.1, P10.2, P10.3: values of each kind, right and not, in slots, on stacks and in cells, the first and the last of each.
func TestValues(t *testing.T) {
	for _, x := range valued {
		for what, set := range map[string]func(s *api.State){
			"the first slot":          func(s *api.State) { s.Calls[0].Slots[0] = x.v },
			"a last slot":             func(s *api.State) { s.Calls[0].Slots[2] = x.v },
			"a slot within":           func(s *api.State) { s.Calls[1].Slots[0] = x.v },
			"the innermost's slot":    func(s *api.State) { s.Calls[2].Slots = vals(x.v) },
			"the stack's first":       func(s *api.State) { s.Calls[0].Stack[0] = x.v },
			"a stack's last":          func(s *api.State) { s.Calls[1].Stack[2] = x.v },
			"the innermost's stack":   func(s *api.State) { s.Calls[2].Stack = vals(x.v) },
			"the only call's slot":    func(s *api.State) { s.Calls = []api.Called{{Slots: vals(x.v)}} },
			"the only call's stack":   func(s *api.State) { s.Calls = []api.Called{{Stack: vals(x.v)}} },
			"a slot behind many":      func(s *api.State) { s.Calls[1].Slots = append(make([]api.Val, 31), x.v) },
			"on a stack behind many":  func(s *api.State) { s.Calls[1].Stack = append(make([]api.Val, 255), x.v) },
			"a slot of an ended run":  func(s *api.State) { s.Status, s.Calls[0].Slots[1] = api.Done, x.v },
			"a stack of an ended run": func(s *api.State) { s.Status, s.Calls[0].Stack[1] = api.Done, x.v },
		} {
			expectState(t, fmt.Sprintf("%s: %.40q", what, fmt.Sprint(x.v)), changed(full(), set), x.is)
		}
		for what, set := range map[string]func(s *api.State){
			"the first cell":             func(s *api.State) { s.Heap[0].Cells[0] = x.v },
			"a cell in the midst":        func(s *api.State) { s.Heap[0].Cells[1] = x.v },
			"the last cell":              func(s *api.State) { s.Heap[2].Cells[1] = x.v },
			"the only cell":              func(s *api.State) { s.Heap[1].Cells = vals(x.v) },
			"a cell, where no calls are": func(s *api.State) { s.Calls, s.Heap[1].Cells = nil, vals(x.v) },
		} {
			expectState(t, fmt.Sprintf("%s: %.40q", what, fmt.Sprint(x.v)), changed(full(), set), x.cell)
		}
	}
}

// P10.1: references to the last object, and one past it, of heaps of many sizes.
func TestReferences(t *testing.T) {
	for _, n := range []int{0, 1, 2, 3, 64, 100, 4095, 4096} {
		for _, to := range []int{-1, 0, n - 2, n - 1, n, n + 1} {
			s := api.State{Heap: make([]api.Obj, n)}
			is := to >= 0 && to < n
			s.Calls = []api.Called{{Slots: vals(ref(to))}}
			expectState(t, fmt.Sprintf("a slot that refers to %d of %d", to, n), s, is)
			s.Calls = []api.Called{{}, {Stack: vals(none, ref(to))}}
			expectState(t, fmt.Sprintf("a stack that refers to %d of %d", to, n), s, is)
			if n == 0 || n == 4096 {
				continue
			}
			s.Calls = nil
			s.Heap[0].Cells = vals(ref(to))
			expectState(t, fmt.Sprintf("a cell that refers to %d of %d", to, n), s, is)
		}
	}
}

// P10.1: the tags of objects.
func TestTags(t *testing.T) {
	for tag, is := range map[string]bool{
		"": true, "P": true, "_": true, "a9_": true, "funny": true, strings.Repeat("z", 20): true,
		strings.Repeat("z", 21): false, strings.Repeat("z", 255): false, strings.Repeat("z", 256): false,
		"1": false, " ": false, "a b": false, "a-": false, "fn": false, "record": false, "true": false, "\"a\"": false, "\x00": false, "\xc3\xa4": false, "a\n": false,
	} {
		for at := range 3 {
			s := changed(full(), func(s *api.State) { s.Heap[at].Tag = tag })
			expectState(t, fmt.Sprintf("the tag %.40q of the object %d", tag, at), s, is)
		}
	}
}
