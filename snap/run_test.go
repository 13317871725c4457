package snap

import (
	"fmt"
	"reflect"
	"testing"

	"hindcast/api"
	"hindcast/compile"
	"hindcast/vm"
)

// runs are programs, their input, and how they end.
var runs = []struct {
	source string
	input  []int
	lim    api.Limits
	fault  api.Fault
}{
	{"fn main() { }", nil, api.Limits{Steps: 9, Frames: 1}, 0},
	{"fn main() { let x = 2; print(x + 1); }", nil, api.Limits{Steps: 9, Frames: 1, Out: 9}, 0},
	{"fn fac(n: int): int { if n < 2 { return 1; } return n * fac(n - 1); }\nfn main() { print(\"fac:\", fac(20)); }", nil, api.Limits{Steps: 200, Frames: 64, Out: 99}, 0},
	{"fn even(n: int): bool { if n == 0 { return true; } return !even(n - 1); }\nfn main() { let b = [even(3), even(6)]; print(\"a\\n\", b, b[0] == b[1]); }", nil, api.Limits{Steps: 200, Heap: 9, Frames: 9, Out: 99}, 0},
	{"record P { x: int, s: str, l: [int] } record Q { p: P, b: bool }\nfn set(q: Q, n: int): str { q.p.l[n] = q.p.x; q.b = !q.b; q.p.s = q.p.s + str(n); return q.p.s; }\nfn main() { let q = new Q(new P(-5, \"\", array(4, 0)), true);\nlet i = 0; while i < 4 { let s = set(q, i); print(i, s, q.b, q); i = i + 1; } }", nil, api.Limits{Steps: 200, Heap: 99, Frames: 9, Out: 999}, 0},
	{"fn sum(l: [int]): int { let n = 0; let i = 0; while i < len(l) { n = n + l[i]; i = i + 1; } return n; }\nfn main() { let l = array(input(), 0); let i = 0; while i < len(l) { l[i] = input(); i = i + 1; } print(sum(l)); }", []int{3, 10, -20, 1 << 40}, api.Limits{Steps: 200, Heap: 99, Frames: 9, Out: 999}, 0},
	{"fn main() { let i = 5; while true { print(10 / i); i = i - 1; } }", nil, api.Limits{Steps: 200, Frames: 2, Out: 99}, api.FaultDiv},
	{"fn main() { let l = [[1]]; print(\"ab\", 7, l[0][1]); }", nil, api.Limits{Steps: 200, Heap: 9, Frames: 2, Out: 99}, api.FaultIndex},
	{"fn main() { let n = -1; let l = array(n, true); }", nil, api.Limits{Steps: 200, Heap: 9, Frames: 2, Out: 99}, api.FaultSize},
	{"fn main() { let s = \"ab\"; while true { s = s + s; print(len(s)); } }", nil, api.Limits{Steps: 200, Heap: 9, Frames: 2, Out: 99}, api.FaultText},
	{"fn main() { while true { print(input()); } }", []int{4, 5}, api.Limits{Steps: 200, Frames: 2, Out: 99}, api.FaultInput},
	{"fn main() { let l = [1]; while true { l = [l[0], 2, 3]; } }", nil, api.Limits{Steps: 9000, Heap: 300, Frames: 2, Out: 99}, api.FaultHeap},
	{"fn f(n: int, s: str): int { let k = n + 1; return 1 + f(k, str(n)); } fn main() { let a = 1; print(a, f(a, \"\")); }", nil, api.Limits{Steps: 300, Frames: 64, Out: 99}, api.FaultFrames},
	{"fn main() { while true { print(\"0123456789\"); } }", nil, api.Limits{Steps: 3000, Frames: 64, Out: 4096}, api.FaultOut},
	{"fn main() { let i = 0; while true { i = i + 1; } }", nil, api.Limits{Steps: 50, Frames: 1}, api.FaultSteps},
}

// P10.1, P10.2, P10.4: the states of runs, at each position; a machine that is loaded of what is loaded of their bytes goes on as the run does.
func TestRuns(t *testing.T) {
	for _, x := range runs {
		c, _, err := compile.Source(x.source)
		if err != api.OK {
			t.Fatalf("the test is wrong: %s: %d", x.source, err)
		}
		m, err := vm.New(c, x.input, x.lim)
		if err != api.OK {
			t.Fatalf("the test is wrong: %s: %d", x.source, err)
		}
		for more := true; more && !t.Failed(); {
			s := m.State()
			what := fmt.Sprintf("%s: the position %d", x.source, s.Pos)
			expectState(t, what, s, true)
			b, _ := Bytes(s)
			back, _ := Load(b)
			other, err := vm.Load(c, x.input, x.lim, back)
			if err != api.OK {
				t.Fatalf("%s: it is no state of that run: %d", what, err)
			}
			more = m.Step()
			expect(t, what+": Step", other.Step(), more)
			if !reflect.DeepEqual(other.State(), m.State()) || !reflect.DeepEqual(other.Look(), m.Look()) {
				t.Fatalf("%s: it goes on otherwise", what)
			}
		}
		expect(t, x.source+": the fault", m.Look().Fault, x.fault)
	}
}
