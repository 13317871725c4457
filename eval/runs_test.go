package eval

import (
	"fmt"
	"math/rand/v2"
	"strings"
	"testing"

	"hindcast/api"
	"hindcast/compile"
	"hindcast/syntax"
	"hindcast/vm"
)

// typed makes well-typed expressions that make nothing, over the variables of opened.
type typed struct{ *rand.Rand }

const records = "record P { x: int, s: str, l: [int] }\nrecord Q { p: P, b: bool, t: [str] }\n"

// opened tells a program in which variables have values of every type, by chance, where an expression is a let's, which stands in a line of its own.
func opened(r *rand.Rand, e string) string {
	n := func() int { return []int{0, 1, 2, 3, 7, 250, 1 << 40}[r.IntN(7)] }
	text := func() string { return strings.Repeat("ab", []int{0, 1, 2, 60, 127}[r.IntN(5)]) }
	var b strings.Builder
	b.WriteString(records + "fn f(a: int, s: str) {\n")
	fmt.Fprintf(&b, "let b = -%d; let low = -9223372036854775807 - 1; let high = -(low + 1); let t = true; let f = %t;\n", n(), r.IntN(2) == 0)
	fmt.Fprintf(&b, "let u = %q; let l = [a, %d, -%d]; let m = [l, [7], l]; let w = [s, u, %q];\n", text(), n(), n(), text())
	fmt.Fprintf(&b, "let p = new P(%d, %q, l); let q = new Q(p, %t, w); let r = [p, new P(1, \"x\", array(%d, 4))]; let k = [t, f]; let c = [q];\n", n(), text(), r.IntN(2) == 0, r.IntN(3))
	fmt.Fprintf(&b, "let z = %s;\nlet end = 0;\n}\nfn main() { f(%d, %q); }\n", e, n(), text())
	return b.String()
}

var typedNames = map[string][]string{
	"int": {"a", "b", "low", "high"}, "bool": {"t", "f"}, "str": {"s", "u"}, "[int]": {"l"}, "[[int]]": {"m"}, "[str]": {"w"}, "P": {"p"}, "Q": {"q"}, "[P]": {"r"}, "[bool]": {"k"}, "[Q]": {"c"},
}

func pick[T any](r *rand.Rand, l []T) T { return l[r.IntN(len(l))] }

func some(r *rand.Rand, l ...string) string { return pick(r, l) }

// of writes an expression of a type that is at most so deep.
func (m typed) of(typ string, depth int) string {
	if depth <= 1 || m.IntN(6) == 0 {
		return m.leaf(typ)
	}
	sub := func(t string) string { return m.of(t, depth-1) }
	n := m.IntN(8)
	if n < 2 && (typ == "int" || typ == "str" || typ == "bool" || typ == "[int]" || typ == "P" || typ == "Q") {
		return fmt.Sprintf("%s[%s]", sub("["+typ+"]"), sub("int"))
	}
	switch typ {
	case "int":
		switch n {
		case 2:
			return fmt.Sprintf("len(%s)", sub(some(m.Rand, "str", "[int]", "[P]", "[[int]]", "[str]")))
		case 3:
			return fmt.Sprintf("(-%s)", sub("int"))
		case 4:
			return sub("P") + ".x"
		}
		return fmt.Sprintf("(%s %s %s)", sub("int"), some(m.Rand, "+", "-", "*", "/", "%"), sub("int"))
	case "bool":
		switch n {
		case 2:
			return sub("Q") + ".b"
		case 3:
			return fmt.Sprintf("(!%s)", sub("bool"))
		case 4, 5:
			return fmt.Sprintf("(%s %s %s)", sub("bool"), some(m.Rand, "&&", "||", "==", "!="), sub("bool"))
		}
		both := some(m.Rand, "int", "str")
		return fmt.Sprintf("(%s %s %s)", sub(both), some(m.Rand, "==", "!=", "<", "<=", ">", ">="), sub(both))
	case "str":
		switch n {
		case 2, 3:
			return fmt.Sprintf("str(%s)", sub(some(m.Rand, "int", "bool", "str")))
		case 4:
			return sub("P") + ".s"
		}
		return fmt.Sprintf("(%s + %s)", sub("str"), sub("str"))
	case "[int]":
		return sub("P") + ".l"
	case "[str]":
		return sub("Q") + ".t"
	case "P":
		return sub("Q") + ".p"
	}
	return m.leaf(typ)
}

func (m typed) leaf(typ string) string {
	if m.IntN(3) == 0 {
		switch typ {
		case "int":
			return some(m.Rand, "0", "1", "2", "3", "9", "250", "9223372036854775807")
		case "bool":
			return some(m.Rand, "true", "false")
		case "str":
			return some(m.Rand, `""`, `"a"`, `"\n\""`, `"abc"`)
		}
	}
	return pick(m.Rand, typedNames[typ])
}

// ran is a run that stands ahead of a let whose expression is asked for, and behind it.
type ran struct {
	spot
	fault api.Fault
	value api.Val
	shown string
}

// run runs a program to the let of z, and one position further.
func run(t *testing.T, source string) ran {
	t.Helper()
	c, line, err := compile.Source(source)
	if err != api.OK {
		t.Fatalf("the test is wrong: error %d in line %d of\n%s", err, line, source)
	}
	m, err := vm.New(c, nil, api.Limits{Steps: 1000, Heap: 1000, Frames: 4, Out: 100})
	if err != api.OK {
		t.Fatalf("the test is wrong: error %d of New", err)
	}
	at := strings.Count(source[:strings.Index(source, "let z = ")], "\n") + 1
	last := func() api.Frame { l := m.Look().Frames; return l[len(l)-1] }
	for last().Line != at {
		if !m.Step() {
			t.Fatalf("the test is wrong: the run ends ahead of line %d of\n%s", at, source)
		}
	}
	r := ran{spot: spot{last().Vars, m.Heap().All(), c.Shapes}}
	m.Step()
	l := m.Look()
	if r.fault = l.Fault; r.fault == api.NoFault {
		r.value = last().Vars[len(last().Vars)-1].Value
		r.shown = m.Heap().Show(r.value)
	}
	return r
}

// P13.4: what a well-typed expression comes to is what a run makes of it, and it is a fault just where the run ends there for one.
func TestRuns(t *testing.T) {
	met := map[string]int{}
	for seed := range uint64(6000) {
		r := rand.New(rand.NewPCG(13, seed))
		m := typed{r}
		typ := some(r, "int", "bool", "str", "int", "bool", "str", "[int]", "P", "Q", "[str]")
		s := m.of(typ, 2+r.IntN(6))
		x, _, err := syntax.Expr(s)
		if err == api.ErrDeep || err == api.ErrBig {
			met["too deep"]++
			continue
		}
		source := opened(r, s)
		if len(source) > api.MaxSource {
			met["too long"]++
			continue
		}
		ran := run(t, source)
		v, err := ran.eval(x)
		got, other := ran.text(s)
		switch {
		case ran.fault != api.NoFault && (err != api.ErrFault || v != none || other != api.ErrFault || got != ""):
			t.Fatalf("seed %d: %s\n%s: %s, error %d; %q, error %d; a run ends there for the fault %d", seed, source, s, shown(v), err, got, other, ran.fault)
		case ran.fault == api.NoFault && (err != api.OK || v != ran.value || other != api.OK || got != ran.shown):
			t.Fatalf("seed %d: %s\n%s: %s, error %d; %q, error %d; a run makes %s of it, %s", seed, source, s, shown(v), err, got, other, shown(ran.value), ran.shown)
		}
		met[fmt.Sprint(typ, " ", ran.fault != api.NoFault)]++
		met[fmt.Sprint("fault ", ran.fault)]++
	}
	for _, what := range []string{"int false", "int true", "bool false", "bool true", "str false", "str true", "[int] false", "P false", "Q false", "[str] false", "fault 1", "fault 2", "fault 4"} {
		if met[what] < 5 {
			t.Errorf("%s: only %d times; all: %v", what, met[what], met)
		}
	}
}

// P13.4, at expressions that are written by hand, whose faults are known.
func TestRunsByHand(t *testing.T) {
	r := rand.New(rand.NewPCG(1, 2))
	for s, want := range map[string]api.Fault{
		"low / (b - b)": api.FaultDiv, "low % (b - b)": api.FaultDiv, "low / -1": 0, "low % -1": 0, "l[3]": api.FaultIndex, "l[-1]": api.FaultIndex, "l[2]": 0, "r[1].l[2]": api.FaultIndex, "m[1][1]": api.FaultIndex, "m[1][0]": 0,
		"false && l[9] == 1": 0, "true || 1 / 0 == 1": 0, "true && l[9] == 1": api.FaultIndex, "false || 1 / 0 == 1": api.FaultDiv, "1 / 0 == l[9]": api.FaultDiv, "l[9] == 1 / 0": api.FaultIndex,
		"q.p.l[len(l) - 1] == l[len(l) - 1]": 0, "str(low) + str(t)": 0, "c[0].p.s == p.s && c[0].t[1] == u": 0, "len(str(true)) * -high": 0, "w": 0, "c[0]": 0, "c": 0,
	} {
		ran := run(t, opened(r, s))
		expect(t, s, ran.fault, want)
		if want == 0 {
			ran.comes(t, s, ran.value)
			continue
		}
		ran.wrong(t, api.ErrFault, s)
	}
	long := "\"" + strings.Repeat("v", 250) + "\""
	for s, is := range map[string]bool{long + ` + "vwxyz"`: true, long + ` + "vwxyz!"`: false, `("a" + "b") + ("c" + ` + long + `) + "de"`: true, `"f" + "a" + "b" + "c" + ` + long + ` + "de"`: false} {
		ran := run(t, opened(r, s))
		expect(t, s, ran.fault == 0, is)
		if is {
			ran.comes(t, s, ran.value)
			continue
		}
		expect(t, s, ran.fault, api.FaultText)
		ran.wrong(t, api.ErrFault, s)
	}
}
