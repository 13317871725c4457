package vm

import (
	"fmt"
	"math"
	"math/rand/v2"
	"slices"
	"strings"
	"testing"

	"hindcast/api"
	"hindcast/syntax"
)

// expectProgram holds the run of a program's code, position by position, against the program run by its statements.
func expectProgram(t *testing.T, source string, input []int, lim api.Limits) api.Look {
	t.Helper()
	p, _, err := syntax.Parse(source)
	if err != api.OK {
		t.Fatalf("the test is wrong: error %d of\n%s", err, source)
	}
	m := mustNew(t, mustCompile(t, source), input, lim)
	moments := walk(p, input, lim)
	for n, want := range moments {
		look := m.Look()
		expect(t, fmt.Sprint("position ", n, ": Look"), shown(look), shown(want.look))
		expect(t, fmt.Sprint("position ", n, ": Heap"), shown(m.Heap().All()), shown(want.heap))
		if look.Fault == api.FaultKind {
			t.Error("a well-typed program ends for FaultKind")
		}
		expect(t, fmt.Sprint("position ", n, ": Step"), m.Step(), n < len(moments)-1)
		if t.Failed() {
			t.Fatalf("the program was:\n%s\nof %v with %v", source, input, lim)
		}
	}
	return m.Look()
}

// P9.5: programs, and what they print or end for.
func TestPrograms(t *testing.T) {
	for _, x := range []struct {
		source string
		input  []int
		out    string
		fault  api.Fault
	}{
		{"fn main() { }", nil, "", 0},
		{"fn main() { return; }", nil, "", 0},
		{"fn f() { } fn main() { f(); f(); }", nil, "", 0},
		{"fn main() { let i = 0; while i < 3 { print(i); i = i + 1; } print(\"end\"); }", nil, "0\n1\n2\nend\n", 0},
		{"fn main() { while false { print(1); } while true { return; } }", nil, "", 0},
		{"fn main() { if 1 < 2 { print(\"a\"); } else { print(\"b\"); } if 2 < 1 { print(\"c\"); } else { print(\"d\"); } if false { print(\"e\"); } }", nil, "a\nd\n", 0},
		{"fn fac(n: int): int { if n < 2 { return 1; } return n * fac(n - 1); }\nfn main() { print(fac(5), fac(21)); }", nil, "120 -4249290049419214848\n", 0},
		{"fn even(n: int): bool { if n == 0 { return true; } return odd(n - 1); } fn odd(n: int): bool { if n == 0 { return false; } return even(n - 1); } fn main() { print(even(20), odd(7)); }", nil, "true true\n", 0},
		{"fn say(s: str, is: bool): bool { print(s); return is; } fn main() { print(say(\"a\", false) && say(\"b\", true), say(\"c\", true) || say(\"d\", false), say(\"e\", true) && say(\"f\", false), say(\"g\", false) || say(\"h\", true)); }", nil, "a\nc\ne\nf\ng\nh\nfalse true false true\n", 0},
		{"fn show(n: int): int { print(n); return n; } fn main() { let l = [show(1), show(2)]; l[show(0)] = show(3) - show(4); print(l, show(5) < show(6)); }", nil, "1\n2\n0\n3\n4\n5\n6\n[-1, 2] true\n", 0},
		{"record P { x: int, y: [int] } fn set(p: P) { p.x = p.x + 1; p.y[0] = p.x; p = new P(0, [0]); } fn main() { let p = new P(1, [5, 6]); let q = p; set(q); print(p, q.y); }", nil, "P(2, [2, 6]) [2, 6]\n", 0},
		{"fn main() { let s = \"\"; let i = 0; while i < 4 { let t = str(i) + \",\"; s = s + t; i = i + 1; } print(s, len(s)); let t2 = s == \"0,1,2,3,\"; print(t2); }", nil, "0,1,2,3, 8\ntrue\n", 0},
		{"fn sum(l: [int]): int { let n = 0; let i = 0; while i < len(l) { n = n + l[i]; i = i + 1; } return n; }\nfn main() { let l = array(input(), 0); let i = 0; while i < len(l) { l[i] = input(); i = i + 1; } print(sum(l)); }", []int{3, 10, 20, 30}, "60\n", 0},
		{"fn main() {\nlet n = input();\nlet l = array(n, 0);\nlet i = 0;\nwhile i < n { l[i] = input(); i = i + 1; }\ni = 1;\nwhile i < n {\nlet x = l[i]; let k = i;\nwhile k > 0 && l[k - 1] > x { l[k] = l[k - 1]; k = k - 1; }\nl[k] = x; i = i + 1; }\nprint(l); }", []int{6, 5, 2, 9, -1, 7, 2}, "[-1, 2, 2, 5, 7, 9]\n", 0},
		{"fn main() { let i = 5; while true { print(10 / i); i = i - 1; } }", nil, "2\n2\n3\n5\n10\n", api.FaultDiv},
		{"fn f(n: int): int { let k = n + 1; return f(k); } fn main() { let a = 1; print(f(a)); }", nil, "", api.FaultFrames},
		{"fn main() { let l = [1]; while true { l = [l[0], 2, 3]; } }", nil, "", api.FaultHeap},
		{"fn main() { let l = [[1]]; let i = 0; while true { let m = l[i]; print(m[0]); i = i + 1; } }", nil, "1\n", api.FaultIndex},
		{"fn main() { while true { print(input()); } }", []int{4, 5}, "4\n5\n", api.FaultInput},
		{"fn main() { let n = 3; while true { let l = array(n, true); print(len(l)); n = n - 2; } }", nil, "3\n1\n", api.FaultSize},
		{"fn main() { let s = \"ab\"; while true { s = s + s; print(len(s)); } }", nil, "4\n8\n16\n32\n64\n128\n", api.FaultText},
		{"fn main() { let i = 0; while true { i = i + 1; } }", nil, "", api.FaultSteps},
	} {
		lim := api.Limits{Steps: 2000, Heap: 300, Frames: 64, Out: 4096}
		got := expectProgram(t, x.source, x.input, lim)
		expect(t, x.source+": the output", got.Out, x.out)
		expect(t, x.source+": the fault", got.Fault, x.fault)
		lim.Steps = 60
		expectProgram(t, x.source, x.input, lim)
	}
}

// author writes texts of programs that are well-typed, by chance, such as go on for a while.
type author struct {
	*rand.Rand
	funcs  []api.Func
	result string
	vars   []api.Param
	named  int
}

const theRecords = "record P { x: int, s: str, l: [int] } record Q { p: P, b: bool }\nfn down(n: int): int { if n <= 0 { return 0; } let r = down(n - 1);\nreturn r + n; }\n"

var theTypes = []string{"int", "int", "int", "bool", "str", "[int]", "[int]", "[[int]]", "P", "Q", "[P]"}

func pick[T any](r *rand.Rand, l ...T) T { return l[r.IntN(len(l))] }

func (w *author) program() string {
	w.funcs = []api.Func{{Name: "down", Params: []api.Param{{Name: "n", Type: "int"}}, Result: "int"}}
	s := theRecords
	for n := range w.IntN(4) {
		f := api.Func{Name: fmt.Sprint("f", n)}
		for k := range w.IntN(4) {
			f.Params = append(f.Params, api.Param{Name: fmt.Sprint("a", k), Type: pick(w.Rand, theTypes...)})
		}
		if w.IntN(3) > 0 {
			f.Result = pick(w.Rand, theTypes...)
		}
		s += w.function(f)
		w.funcs = append(w.funcs, f)
	}
	return s + w.function(api.Func{Name: "main"})
}

func (w *author) function(f api.Func) string {
	var heads []string
	for _, v := range f.Params {
		heads = append(heads, v.Name+": "+v.Type)
	}
	s := "fn " + f.Name + "(" + strings.Join(heads, ", ") + ")"
	if f.Result != "" {
		s += ": " + f.Result
	}
	w.result, w.vars, w.named = f.Result, slices.Clone(f.Params), len(f.Params)
	return s + " {\n" + w.row(3, f.Result != "") + "}\n"
}

func (w *author) row(deep int, ends bool) string {
	there := len(w.vars)
	s := ""
	for range 1 + w.IntN(4) {
		s += w.stmt(deep) + pick(w.Rand, " ", "\n")
	}
	if ends {
		s += w.back()
	}
	w.vars = w.vars[:there]
	return s
}

func (w *author) back() string {
	if w.result == "" {
		return "return;"
	}
	return "return " + w.expr(w.result, 2) + ";"
}

func (w *author) let(t, e string) (name, s string) {
	name = fmt.Sprint("v", w.named)
	w.named++
	w.vars = append(w.vars, api.Param{Name: name, Type: t})
	return name, "let " + name + " = " + e + ";"
}

func (w *author) stmt(deep int) string {
	t := pick(w.Rand, theTypes...)
	n := w.IntN(20)
	switch {
	case n < 5 && w.named < 30:
		_, s := w.let(t, w.expr(t, 2))
		return s
	case n < 9:
		return w.place(t) + " = " + w.expr(t, 2) + ";"
	case n < 12:
		return "print(" + w.expr(t, 2) + ", " + w.expr(pick(w.Rand, theTypes...), 1) + ");"
	case n < 14:
		return w.call(pick(w.Rand, w.funcs...), 2) + ";"
	case n == 14 && w.IntN(4) == 0:
		return w.back()
	case deep == 0:
		return pick(w.Rand, "input();", "str("+w.expr("int", 1)+");")
	case n < 17:
		return "if " + w.expr("bool", 2) + " {" + w.row(deep-1, false) + "}"
	case n < 18 || w.named >= 30:
		return "if " + w.expr("bool", 2) + " {" + w.row(deep-1, w.IntN(9) == 0) + "} else {" + w.row(deep-1, false) + "}"
	}
	i, s := w.let("int", fmt.Sprint(w.IntN(2)))
	return s + " while " + i + " < " + fmt.Sprint(1+w.IntN(4)) + " {" + w.row(deep-1, false) + i + " = " + i + " + 1; }"
}

func (w *author) place(t string) string {
	if l := w.variables(t); len(l) > 0 && w.IntN(3) > 0 {
		return pick(w.Rand, l...)
	}
	return w.part(t, 1)
}

// part writes a cell or a field of a type.
func (w *author) part(t string, deep int) string {
	fields := map[string][]string{"int": {".x P"}, "str": {".s P"}, "[int]": {".l P"}, "P": {".p Q"}, "bool": {".b Q"}}[t]
	if len(fields) > 0 && w.IntN(2) == 0 {
		field, of, _ := strings.Cut(fields[0], " ")
		return "(" + w.expr(of, deep) + ")" + field
	}
	if !slices.Contains(theTypes, "["+t+"]") {
		return "[" + w.expr(t, deep) + "][0]"
	}
	return "(" + w.expr("["+t+"]", deep) + ")[" + pick(w.Rand, "0", "0", "0", "1", w.expr("int", 0)) + "]"
}

func (w *author) variables(t string) []string {
	var l []string
	for _, v := range w.vars {
		if v.Type == t {
			l = append(l, v.Name)
		}
	}
	return l
}

func (w *author) call(f api.Func, deep int) string {
	var l []string
	for _, v := range f.Params {
		if f.Name == "down" {
			l = append(l, w.expr("int", 0))
		} else {
			l = append(l, w.expr(v.Type, deep-1))
		}
	}
	return f.Name + "(" + strings.Join(l, ", ") + ")"
}

func (w *author) expr(t string, deep int) string {
	all := w.variables(t)
	if deep <= 0 || w.IntN(4) == 0 {
		if len(all) > 0 && w.IntN(4) > 0 {
			return pick(w.Rand, all...)
		}
		return w.plain(t)
	}
	deep--
	for _, f := range w.funcs {
		if f.Result == t {
			all = append(all, w.call(f, deep))
		}
	}
	all = append(all, w.part(t, deep))
	kid := func(t string) string { return "(" + w.expr(t, deep) + ")" }
	switch t {
	case "int":
		all = append(all, "-"+kid("int"), kid("int")+pick(w.Rand, "+", "-", "*")+kid("int"), kid("int")+pick(w.Rand, "/", "%")+pick(w.Rand, "3", "-2", "7", kid("int")))
		all = append(all, "input()", "len("+kid(pick(w.Rand, "str", "[int]", "[P]"))+")")
	case "bool":
		either := pick(w.Rand, "int", "str")
		all = append(all, "!"+kid("bool"), kid(either)+pick(w.Rand, "<", "<=", ">", ">=", "==", "!=")+kid(either), kid("bool")+pick(w.Rand, "==", "!=")+kid("bool"))
		all = append(all, kid("bool")+"&&"+kid("bool"), kid("bool")+"||"+kid("bool"))
	case "str":
		all = append(all, kid("str")+"+"+kid("str"), "str("+kid(pick(w.Rand, "str", "int", "bool"))+")")
	case "P":
		all = append(all, "new P("+w.expr("int", deep)+", "+w.expr("str", deep)+", "+w.expr("[int]", deep)+")")
	case "Q":
		all = append(all, "new Q("+w.expr("P", deep)+", "+w.expr("bool", deep)+")")
	default:
		kidType := t[1 : len(t)-1]
		all = append(all, "["+w.expr(kidType, deep)+", "+w.expr(kidType, deep)+"]", "array("+pick(w.Rand, "0", "1", "3", kid("int"))+", "+w.expr(kidType, deep)+")")
	}
	return pick(w.Rand, all...)
}

func (w *author) plain(t string) string {
	switch t {
	case "int":
		return pick(w.Rand, "0", "1", "2", "3", "5", "9223372036854775807")
	case "bool":
		return pick(w.Rand, "true", "false")
	case "str":
		return pick(w.Rand, `""`, `"a"`, `"b\n"`, `"x y"`, `"`+strings.Repeat("z", 160)+`"`)
	case "P":
		return "new P(" + w.plain("int") + ", " + w.plain("str") + ", [1, 2])"
	case "Q":
		return "new Q(" + w.plain("P") + ", " + w.plain("bool") + ")"
	}
	return "[" + w.plain(t[1:len(t)-1]) + ", " + w.plain(t[1:len(t)-1]) + "]"
}

// someLimits tells limits that runs come to now and then.
func someLimits(r *rand.Rand) api.Limits {
	lim := api.Limits{Steps: 1 + r.IntN(300), Heap: r.IntN(400), Frames: 1 + r.IntN(12), Out: r.IntN(1500)}
	if r.IntN(2) == 0 {
		lim.Heap, lim.Frames, lim.Out = 4096, 64, 4096
	}
	return lim
}

func someInput(r *rand.Rand) []int {
	l := make([]int, r.IntN(30))
	for n := range l {
		l[n] = pick(r, 0, 1, 2, 3, -1, 7, math.MaxInt, math.MinInt)
	}
	return l
}

// P9.5, P9.7: programs by chance, held against the same run by their statements.
func TestProgramsByChance(t *testing.T) {
	t.Parallel()
	ended := map[api.Fault]int{}
	positions := 0
	for seed := range uint64(2500) {
		w := &author{Rand: rand.New(rand.NewPCG(seed, 9))}
		s := w.program()
		if len(s) > api.MaxSource {
			continue
		}
		l := expectProgram(t, s, someInput(w.Rand), someLimits(w.Rand))
		ended[l.Fault]++
		positions += l.Pos
	}
	for fault := api.NoFault; fault <= api.FaultSteps; fault++ {
		if ended[fault] < 10 {
			t.Errorf("only %d runs end for the fault %d", ended[fault], fault)
		}
	}
	if positions < 30000 {
		t.Errorf("only %d positions", positions)
	}
}

// P9.6, P9.4: at each position of such programs' runs, what is loaded of the state goes on as the machine does.
func TestProgramsAgain(t *testing.T) {
	t.Parallel()
	for seed := range uint64(60) {
		w := &author{Rand: rand.New(rand.NewPCG(seed, 10))}
		s := w.program()
		if len(s) > api.MaxSource {
			continue
		}
		c, input, lim := mustCompile(t, s), someInput(w.Rand), someLimits(w.Rand)
		all := expectRun(t, s, c, input, lim)
		if t.Failed() {
			t.FailNow()
		}
		last := all[len(all)-1]
		for range 3 {
			from := all[w.IntN(len(all))]
			m := mustLoad(t, c, input, lim, from)
			expect(t, s+": how far it goes on", m.Run(math.MaxInt), last.Pos-from.Pos)
			expect(t, s+": how it ends", shown(m.State()), shown(last))
		}
	}
}
