package compile

import (
	"fmt"
	"math/rand/v2"
	"reflect"
	"slices"
	"strings"
	"testing"
	"unsafe"

	"hindcast/api"
	"hindcast/code"
	"hindcast/syntax"
	"hindcast/types"
)

// author writes texts of programs that are well-typed, by chance.
type author struct {
	*rand.Rand
	funcs  []api.Func
	result string
	vars   []api.Param
	named  int
}

var someTypes = []string{"int", "bool", "str", "[int]", "[bool]", "[[str]]", "P", "[P]"}

const someRecords = "record P { x: int, q: [P], s: str } record Q { p: P, b: bool }"

var fields = map[string][]string{"int": {"tell().x"}, "str": {"tell().s"}, "[P]": {"tell().q"}, "P": {"new Q(tell(), true).p"}, "bool": {"new Q(tell(), false).b"}}

func pick[T any](r *rand.Rand, l []T) T { return l[r.IntN(len(l))] }

// blank parts tokens, now and then by line ends.
func (w *author) blank() string {
	return pick(w.Rand, []string{" ", " ", " ", "\n", "\n\n", " // no\n"})
}

func (w *author) program() string {
	w.funcs = []api.Func{{Name: "main"}, {Name: "tell", Result: "P"}}
	for n := range w.IntN(4) {
		f := api.Func{Name: "f" + itoa(n)}
		for k := range w.IntN(4) {
			f.Params = append(f.Params, api.Param{Name: "a" + itoa(k), Type: pick(w.Rand, someTypes)})
		}
		if w.IntN(2) == 0 {
			f.Result = pick(w.Rand, someTypes)
		}
		w.funcs = append(w.funcs, f)
	}
	w.Shuffle(len(w.funcs), func(i, k int) { w.funcs[i], w.funcs[k] = w.funcs[k], w.funcs[i] })
	all := []string{someRecords}
	for _, f := range w.funcs {
		var heads []string
		for _, v := range f.Params {
			heads = append(heads, v.Name+": "+v.Type)
		}
		head := "fn " + f.Name + "(" + strings.Join(heads, ",") + ")"
		if f.Result != "" {
			head += ": " + f.Result
		}
		w.result, w.vars, w.named = f.Result, slices.Clone(f.Params), len(f.Params)
		all = append(all, head+" {"+w.blank()+w.row(3, f.Result != "")+"}")
	}
	return strings.Join(all, w.blank())
}

func (w *author) row(deep int, ends bool) string {
	there := len(w.vars)
	var l []string
	for range w.IntN(4) {
		l = append(l, w.stmt(deep))
	}
	if ends && deep > 1 && w.IntN(3) == 0 {
		l = append(l, "if "+w.expr("bool", 2)+" {"+w.row(deep-1, true)+"} else {"+w.row(deep-1, true)+"}")
	} else if ends {
		l = append(l, w.back())
	}
	w.vars = w.vars[:there]
	return strings.Join(append(l, ""), w.blank())
}

func (w *author) back() string {
	if w.result == "" {
		return "return;"
	}
	return "return " + w.expr(w.result, 2) + ";"
}

func (w *author) stmt(deep int) string {
	n := w.IntN(10)
	if deep <= 1 {
		n = w.IntN(7)
	}
	t := pick(w.Rand, someTypes)
	switch {
	case n < 2 && w.named < 32:
		s := "let v" + itoa(w.named) + " =" + w.blank() + w.expr(t, 3) + ";"
		w.vars = append(w.vars, api.Param{Name: "v" + itoa(w.named), Type: t})
		w.named++
		return s
	case n < 3:
		return w.place(t) + " = " + w.expr(t, 2) + ";"
	case n < 5:
		return "print(" + w.expr(t, 2) + ", " + w.expr(pick(w.Rand, someTypes), 2) + ");"
	case n < 6:
		return w.call(pick(w.Rand, w.funcs), 2) + ";"
	case n < 7:
		if w.IntN(3) > 0 {
			return pick(w.Rand, []string{"input();", "len(" + w.expr("str", 1) + ");", "str(" + w.expr("bool", 1) + ");", "array(1, " + w.expr(t, 1) + ");"})
		}
		return w.back()
	case n < 8:
		return "if " + w.expr("bool", 3) + " {" + w.row(deep-1, false) + "}"
	case n < 9:
		return "if " + w.expr("bool", 3) + " {" + w.row(deep-1, false) + "} else {" + w.row(deep-1, false) + "}"
	}
	return "while " + w.expr("bool", 3) + " {" + w.row(deep-1, false) + "}"
}

func (w *author) place(t string) string {
	if l := w.variables(t); len(l) > 0 && w.IntN(2) == 0 {
		return pick(w.Rand, l)
	}
	if l := fields[t]; len(l) > 0 && w.IntN(2) == 0 {
		return pick(w.Rand, l)
	}
	return "[" + w.expr(t, 1) + "][" + w.expr("int", 2) + "]"
}

func (w *author) variables(t string) []string {
	var l []string
	for _, v := range w.vars {
		if v.Type == t {
			l = append(l, v.Name)
		}
	}
	return l
}

func (w *author) call(f api.Func, deep int) string {
	var l []string
	for _, v := range f.Params {
		l = append(l, w.expr(v.Type, deep-1))
	}
	return f.Name + "(" + strings.Join(l, ", ") + ")"
}

// expr writes an expression of a type, out of all that may stand there.
func (w *author) expr(t string, deep int) string {
	all := w.variables(t)
	if deep <= 0 || w.IntN(4) == 0 {
		if len(all) > 0 && w.IntN(3) > 0 {
			return pick(w.Rand, all)
		}
		return w.plain(t)
	}
	deep--
	all = append(all, fields[t]...)
	for _, f := range w.funcs {
		if f.Result == t {
			all = append(all, w.call(f, deep))
		}
	}
	all = append(all, "["+w.expr(t, deep)+", "+w.expr(t, deep)+"]["+w.expr("int", deep)+"]")
	kid := func(t string) string { return "(" + w.expr(t, deep) + ")" }
	switch t {
	case "int":
		all = append(all, "-"+kid("int"), kid("int")+pick(w.Rand, strings.Fields("+ - * / %"))+kid("int"), "input()", "len("+kid(pick(w.Rand, []string{"str", "[int]"}))+")")
	case "bool":
		either := pick(w.Rand, []string{"int", "str"})
		all = append(all, "!"+kid("bool"), kid(either)+pick(w.Rand, strings.Fields("< <= > >= == !="))+kid(either))
		for range 3 {
			all = append(all, kid("bool")+pick(w.Rand, []string{"&&", "||"})+kid("bool"))
		}
	case "str":
		all = append(all, kid("str")+"+"+kid("str"), "str("+kid(pick(w.Rand, []string{"str", "int", "bool"}))+")")
	case "P":
		all = append(all, "new P("+kid("int")+", "+kid("[P]")+", "+kid("str")+")")
	default:
		all = append(all, "["+kid(t[1:len(t)-1])+", "+kid(t[1:len(t)-1])+"]", "array("+kid("int")+", "+kid(t[1:len(t)-1])+")")
	}
	return pick(w.Rand, all)
}

func (w *author) plain(t string) string {
	switch t {
	case "int":
		return itoa(w.IntN(3))
	case "bool":
		return pick(w.Rand, []string{"true", "false"})
	case "str":
		return pick(w.Rand, []string{`""`, `"a"`, `"b"`, `"x"`, `"\n"`})
	case "P":
		return "tell()"
	}
	return "[" + w.plain(t[1:len(t)-1]) + "]"
}

// written tells texts of well-typed programs that are not too long.
func written(t *testing.T, n int, seed uint64, do func(w *author, s string)) {
	w := &author{Rand: rand.New(rand.NewPCG(seed, 8))}
	for made := 0; made < n; {
		s := w.program()
		if len(s) > api.MaxSource {
			continue
		}
		made++
		do(w, s)
		if t.Failed() {
			t.Fatalf("the text was:\n%s", s)
		}
	}
}

// P8.1 to P8.6: programs by chance, held against the chapter's words.
func TestByChance(t *testing.T) {
	size, kinds := 0, map[api.Op]int{}
	written(t, 1200, 1, func(w *author, s string) {
		c := compiled(t, s)
		expectMarks(t, parse(t, s), c)
		expectVariables(t, c)
		for _, u := range c.Units {
			size += len(u.Ins)
			for _, i := range u.Ins {
				kinds[i.Op]++
			}
		}
	})
	for op := api.OpMark; op <= api.OpPrint; op++ {
		if kinds[op] < 100 {
			t.Errorf("the op %d came %d times alone, among %d", op, kinds[op], size)
		}
	}
}

// P8.3: what is told of a program is right, wherever its limits are in the way, and whatever kind of program it is.
func TestRight(t *testing.T) {
	written(t, 60, 2, func(w *author, s string) {
		p := parse(t, s)
		for n := range p.Funcs { // many statements of one function, which may come to more than there may be
			var lets []api.Stmt
			for _, x := range p.Funcs[n].Body {
				if x.Kind == api.SDo || x.Kind == api.SSet {
					for range w.IntN(900) {
						lets = append(lets, x)
					}
				}
				lets = append(lets, x)
			}
			p.Funcs[n].Body = lets
		}
		if _, err := types.Check(p); err != api.OK {
			t.Fatal("the test is wrong: it is not well-typed")
		}
		want := api.OK
		for _, u := range codeByWords(p).Units {
			if len(u.Ins) > 4096 {
				want = api.ErrBig
			}
		}
		c, line, err := Program(p)
		expect(t, "many statements", err, want)
		expect(t, "the line", line, 0)
		if err == api.OK {
			expect(t, "code.Check", code.Check(c), api.OK)
		}
	})
}

// expectMarks demands a mark for each statement, in order, of its line, and none else; where it is reached, nothing is on the stack.
func expectMarks(t *testing.T, p api.Program, c api.Code) {
	t.Helper()
	for n, u := range c.Units {
		var want, got []int
		var row func(l []api.Stmt)
		row = func(l []api.Stmt) {
			for _, s := range l {
				want = append(want, s.Line)
				row(s.Body)
				row(s.Else)
			}
		}
		row(p.Funcs[n].Body)
		heights, _ := code.Heights(c, n)
		for at, i := range u.Ins {
			if i.Op == api.OpMark {
				got = append(got, i.A)
				if heights[at] > 0 {
					t.Errorf("a mark within an expression: %s %d", u.Name, at)
				}
			}
		}
		if !slices.Equal(got, want) {
			t.Errorf("%s: the marks %v, not %v", u.Name, got, want)
		}
	}
}

// expectVariables demands different slots and names of the variables that are there at a mark, and that each slot that is loaded or set is one of theirs.
func expectVariables(t *testing.T, c api.Code) {
	t.Helper()
	for _, u := range c.Units {
		slots, names := map[int]bool{}, map[string]bool{}
		for at, i := range u.Ins {
			if i.Op == api.OpMark {
				clear(slots)
				clear(names)
				for _, v := range u.Vars {
					if v.From > at || at >= v.To {
						continue
					}
					if slots[v.Slot] || names[v.Name] {
						t.Errorf("%s %d: %s is there twice, or its slot", u.Name, at, v.Name)
					}
					slots[v.Slot], names[v.Name] = true, true
				}
			}
			if i.Op == api.OpLoad && !slots[i.A] {
				t.Errorf("%s %d: nothing is in the slot %d", u.Name, at, i.A)
			}
		}
	}
}

// P8.4: each statement has a line of its own here, so that no mark may have another's.
func TestMarks(t *testing.T) {
	written(t, 500, 3, func(w *author, s string) {
		p := relined(parse(t, s), w.Rand)
		c, _, err := Program(p)
		expect(t, "with lines by chance", err, api.OK)
		expectCode(t, "with lines by chance", p, c)
		expectMarks(t, p, c)
	})
}

// relined tells a program whose lines are any.
func relined(p api.Program, r *rand.Rand) api.Program {
	var row func(l []api.Stmt) []api.Stmt
	var exprs func(l []api.Expr) []api.Expr
	exprs = func(l []api.Expr) []api.Expr {
		l = slices.Clone(l)
		for i := range l {
			l[i].Line, l[i].Kids = int(r.Uint64()), exprs(l[i].Kids)
		}
		return l
	}
	row = func(l []api.Stmt) []api.Stmt {
		l = slices.Clone(l)
		for i := range l {
			l[i].Line, l[i].E, l[i].Body, l[i].Else = int(r.Uint64()), exprs(l[i].E), row(l[i].Body), row(l[i].Else)
		}
		return l
	}
	p.Funcs = slices.Clone(p.Funcs)
	for i := range p.Funcs {
		p.Funcs[i].Line, p.Funcs[i].Body = int(r.Uint64()), row(p.Funcs[i].Body)
	}
	return p
}

// P8.5: line ends ahead change the marks' lines alone, and the line of what is wrong.
func TestLineEndsAhead(t *testing.T) {
	written(t, 500, 4, func(w *author, s string) {
		n := 1 + w.IntN(5000-len(s))
		if w.IntN(3) == 0 {
			n = 1 + w.IntN(3)
		}
		ahead := strings.Repeat("\n", n) + s
		if len(ahead) > api.MaxSource {
			expectNoSource(t, ahead, 0, api.ErrBig)
			return
		}
		c, further := compiled(t, s), compiled(t, ahead)
		for i := range c.Units {
			for k := range c.Units[i].Ins {
				if c.Units[i].Ins[k].Op == api.OpMark {
					c.Units[i].Ins[k].A += n
				}
			}
		}
		if !reflect.DeepEqual(plain(c), plain(further)) {
			t.Errorf("with %d line ends ahead: another code", n)
		}
	})
	for _, s := range []string{"1", "fn main() {\nlet x = zz;\n}", "fn f() {\n", "fn f(): int {\n}\nfn main() { }"} {
		_, line, err := Source(s)
		for n := range 5 {
			expectNoSource(t, strings.Repeat("\n", n)+s, line+n, err)
		}
	}
}

// P8.1, P8.2: texts that are spoilt: whatever is wrong with them is told as those below tell it.
func TestSpoilt(t *testing.T) {
	seen := map[string]int{}
	written(t, 800, 5, func(w *author, s string) {
		for range 4 {
			b := []byte(s)
			switch at := w.IntN(len(b)); w.IntN(5) {
			case 0:
				b = b[:at]
			case 1:
				b = slices.Delete(b, at, min(len(b), at+1+w.IntN(5)))
			case 2:
				b[at] = pick(w.Rand, []byte("0az \n;(){}[]-!\"\\&=.,\x00\xff"))
			case 3:
				from := w.IntN(len(b))
				b = slices.Insert(b, at, []byte(s[from:min(len(s), from+w.IntN(12))])...)
			case 4:
				b = slices.Insert(b, at, []byte(strings.Repeat(pick(w.Rand, []string{"a", "1", "-", " "}), 20+w.IntN(5)))...)
			}
			expectSource(t, string(b), seen)
		}
	})
	for _, err := range []api.Errno{api.OK, api.ErrBig, api.ErrSyntax, api.ErrName, api.ErrType} {
		if seen[fmt.Sprint(err)] < 10 {
			t.Errorf("the error %d came %d times", err, seen[fmt.Sprint(err)])
		}
	}
}

func expectSource(t *testing.T, s string, seen map[string]int) {
	t.Helper()
	p, at, err := syntax.Parse(s)
	line := 0
	if err != api.OK && err != api.ErrDeep && len(s) <= 4096 {
		line = len(strings.Split(s[:at], "\n"))
	}
	if err == api.OK {
		line, err = types.Check(p)
	}
	seen[fmt.Sprint(err)]++
	if err == api.OK {
		compiled(t, s)
		return
	}
	expectNoSource(t, s, line, err)
}

// full is a program with something of everything.
const full = `record P { x: int, ys: [str] }
record Qq { p: P }
fn add(aa: int, bb: int): int { let sum = aa + bb; return sum; }
fn main() {
	let qq = new Qq(new P(1, ["text", "other"]));
	qq.p.ys[0] = "text" + qq.p.ys[1];
	while add(1, 2) > 3 && true || false { let inner = -1; print(inner, qq.p.x); }
}`

// The rules: an answer is new memory, and nothing is kept.
func TestNewMemory(t *testing.T) {
	p := parse(t, full)
	a, _, _ := Program(p)
	b, _, _ := Program(p)
	c, _, _ := Source(full)
	texts := slices.Concat(textsOf(a), textsOf(b), textsOf(c))
	given := append(programTexts(p), full)
	for n, s := range texts {
		for m, other := range texts {
			if n != m && len(s) > 1 && within(s, other) {
				t.Fatalf("the texts %q and %q are shared", s, other)
			}
		}
		for _, other := range given {
			if len(s) > 1 && within(s, other) {
				t.Fatalf("the text %q is shared with the argument", s)
			}
		}
	}
	spoil(b)
	spoil(c)
	want := codeByWords(p)
	if !reflect.DeepEqual(plain(a), plain(want)) {
		t.Error("a code is spoilt")
	}
	again, _, _ := Program(p)
	if !reflect.DeepEqual(plain(again), plain(want)) {
		t.Error("another code behind others")
	}
}

// within tells whether a text lies in the memory of another.
func within(x, s string) bool {
	p, from := uintptr(unsafe.Pointer(unsafe.StringData(x))), uintptr(unsafe.Pointer(unsafe.StringData(s)))
	return s != "" && from <= p && p < from+uintptr(len(s))
}

func textsOf(c api.Code) []string {
	l := slices.Clone(c.Strs)
	for _, s := range c.Shapes {
		l = append(append(l, s.Name), s.Fields...)
	}
	for _, u := range c.Units {
		l = append(l, u.Name)
		for _, v := range u.Vars {
			l = append(l, v.Name)
		}
	}
	return l
}

func programTexts(p api.Program) []string {
	var l []string
	params := func(all []api.Param) {
		for _, v := range all {
			l = append(l, v.Name, v.Type)
		}
	}
	var exprs func(all []api.Expr)
	exprs = func(all []api.Expr) {
		for _, e := range all {
			l = append(l, e.S)
			exprs(e.Kids)
		}
	}
	var row func(all []api.Stmt)
	row = func(all []api.Stmt) {
		for _, s := range all {
			l = append(l, s.S)
			exprs(s.E)
			row(s.Body)
			row(s.Else)
		}
	}
	for _, r := range p.Records {
		l = append(l, r.Name)
		params(r.Fields)
	}
	for _, f := range p.Funcs {
		l = append(l, f.Name, f.Result)
		params(f.Params)
		row(f.Body)
	}
	return l
}

func fill[T any](l []T, x T) {
	for i := range l {
		l[i] = x
	}
}

// spoil writes over all lists of a code, and over what stands behind them.
func spoil(c api.Code) {
	for _, s := range c.Shapes {
		fill(s.Fields[:cap(s.Fields)], "?")
	}
	for _, u := range c.Units {
		fill(u.Ins[:cap(u.Ins)], api.Ins{Op: -1})
		fill(u.Vars[:cap(u.Vars)], api.Var{Name: "?"})
	}
	fill(c.Strs[:cap(c.Strs)], "?")
	fill(c.Shapes[:cap(c.Shapes)], api.Shape{Name: "?"})
	fill(c.Units[:cap(c.Units)], api.Unit{Name: "?"})
}

// The rules: what is handed in is not changed, and what stands behind a list's end neither.
func TestGivenStays(t *testing.T) {
	roomy := func() api.Program {
		p := parse(t, full)
		var row func(l []api.Stmt) []api.Stmt
		var exprs func(l []api.Expr) []api.Expr
		exprs = func(l []api.Expr) []api.Expr {
			l = slices.Clone(l)
			for i := range l {
				l[i].Kids = exprs(l[i].Kids)
			}
			return append(l, api.Expr{S: "behind"})[:len(l)]
		}
		row = func(l []api.Stmt) []api.Stmt {
			l = slices.Clone(l)
			for i := range l {
				l[i].E, l[i].Body, l[i].Else = exprs(l[i].E), row(l[i].Body), row(l[i].Else)
			}
			return append(l, api.Stmt{S: "behind"})[:len(l)]
		}
		for i, r := range p.Records {
			p.Records[i].Fields = append(r.Fields, api.Param{Name: "behind"})[:len(r.Fields)]
		}
		for i, f := range p.Funcs {
			p.Funcs[i].Params = append(f.Params, api.Param{Name: "behind"})[:len(f.Params)]
			p.Funcs[i].Body = row(f.Body)
		}
		p.Records = append(p.Records, api.Record{Name: "behind"})[:len(p.Records)]
		p.Funcs = append(p.Funcs, api.Func{Name: "behind"})[:len(p.Funcs)]
		return p
	}
	p := roomy()
	c, _, err := Program(p)
	expect(t, "with something behind the lists", err, api.OK)
	expectCode(t, "with something behind the lists", parse(t, full), c)
	if got, want := fmt.Sprint(opened(p)), fmt.Sprint(opened(roomy())); got != want {
		t.Error("what was handed in is changed")
	}
}

// opened tells a program with what stands behind its lists' ends.
func opened(p api.Program) api.Program {
	var row func(l []api.Stmt) []api.Stmt
	var exprs func(l []api.Expr) []api.Expr
	exprs = func(l []api.Expr) []api.Expr {
		l = slices.Clone(l[:cap(l)])
		for i := range l {
			l[i].Kids = exprs(l[i].Kids)
		}
		return l
	}
	row = func(l []api.Stmt) []api.Stmt {
		l = slices.Clone(l[:cap(l)])
		for i := range l {
			l[i].E, l[i].Body, l[i].Else = exprs(l[i].E), row(l[i].Body), row(l[i].Else)
		}
		return l
	}
	p.Records = slices.Clone(p.Records[:cap(p.Records)])
	for i, r := range p.Records {
		p.Records[i].Fields = r.Fields[:cap(r.Fields)]
	}
	p.Funcs = slices.Clone(p.Funcs[:cap(p.Funcs)])
	for i, f := range p.Funcs {
		p.Funcs[i].Params, p.Funcs[i].Body = f.Params[:cap(f.Params)], row(f.Body)
	}
	return p
}
