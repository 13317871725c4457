package show

import (
	"fmt"
	"reflect"
	"slices"
	"strings"
	"testing"

	"hindcast/api"
	"hindcast/heap"
)

// The calls have the chapter's signatures.
func TestFace(t *testing.T) {
	expect(t, "Lines", reflect.TypeOf(Lines), reflect.TypeFor[func(api.View, *heap.Heap) ([]string, api.Errno)]())
	expect(t, "Bytes", reflect.TypeOf(Bytes), reflect.TypeFor[func(api.View, *heap.Heap) ([]byte, api.Errno)]())
	expect(t, "Fault", reflect.TypeOf(Fault), reflect.TypeFor[func(api.Fault) string]())
}

// example is the chapter's.
func example() api.View {
	return api.View{
		Look:  api.Look{Pos: 3, Frames: []api.Frame{frame("main", 8, named("i", num(0))), frame("f", 2, named("n", num(1)))}, Out: "a\n"},
		Stops: []api.Stop{{Id: 1, Line: 3, Cond: "n > 0"}},
		Last:  api.Reply{N: 1},
	}
}

func TestExample(t *testing.T) {
	expectShown(t, "the example", example(), heap.New(0), "at 3 running", "> f:2 n=1", "  main:8 i=0", "| a", "#1 line 3 if n > 0", "ok 1")
}

// P16.1, P16.2: a view that is zero is shown.
func TestZero(t *testing.T) {
	expectShown(t, "zero", api.View{}, heap.New(0), "at 0 running", "ok")
}

// P16.1, P16.2: without a heap nothing is shown, whatever else is wrong.
func TestNoHeap(t *testing.T) {
	bad := example()
	bad.Look.Status = 3
	value := example()
	value.Look.Frames[1].Vars[0].Value = ref(0)
	fault := example()
	fault.Look.Fault = api.FaultDiv
	for _, v := range []api.View{{}, example(), bad, value, fault} {
		for _, h := range []*heap.Heap{nil, {}} {
			expectRefused(t, "without a heap", v, h, api.ErrNil)
		}
	}
}

// P16.1: the status is one of the three.
func TestStatus(t *testing.T) {
	expectShown(t, "Running", api.View{Look: api.Look{Pos: 7}}, heap.New(0), "at 7 running", "ok")
	expectShown(t, "Done", api.View{Look: api.Look{Pos: 7, Status: api.Done}}, heap.New(0), "at 7 done", "ok")
	expectShown(t, "Faulty", api.View{Look: api.Look{Pos: 7, Status: api.Faulty, Fault: api.FaultKind}}, heap.New(0), "at 7 fault kind", "ok")
	for _, s := range []api.Status{least, -2, -1, 3, 4, 255, 256, 1 << 32, 1<<32 + 1, most} {
		for _, f := range []api.Fault{0, 1, 10, 11} {
			expectRefused(t, fmt.Sprintf("status %d, fault %d", s, f), api.View{Look: api.Look{Status: s, Fault: f}}, heap.New(0), api.ErrArg)
		}
	}
}

// notFaults are none of the ten.
var notFaults = []api.Fault{least, -11, -10, -2, -1, 0, 11, 12, 255, 256, 257, 1 << 32, 1<<32 + 1, most}

// P16.1: there is one of the ten faults just where the status is Faulty.
func TestFaultOfStatus(t *testing.T) {
	at := func(s api.Status, f api.Fault) api.View { return api.View{Look: api.Look{Pos: 2, Status: s, Fault: f}} }
	for n, name := range names {
		f := api.Fault(n + 1)
		expectShown(t, name, at(api.Faulty, f), heap.New(0), "at 2 fault "+name, "ok")
		expectRefused(t, "Running with "+name, at(api.Running, f), heap.New(0), api.ErrArg)
		expectRefused(t, "Done with "+name, at(api.Done, f), heap.New(0), api.ErrArg)
	}
	for _, f := range notFaults {
		expectRefused(t, fmt.Sprint("Faulty with ", f), at(api.Faulty, f), heap.New(0), api.ErrArg)
		// It is none of the ten, and need not be one.
		expectShown(t, fmt.Sprint("Running with ", f), at(api.Running, f), heap.New(0), "at 2 running", "ok")
		expectShown(t, fmt.Sprint("Done with ", f), at(api.Done, f), heap.New(0), "at 2 done", "ok")
	}
}

// P16.3
func TestFault(t *testing.T) {
	for f, want := range map[api.Fault]string{
		api.FaultDiv: "division", api.FaultIndex: "index", api.FaultSize: "size", api.FaultText: "text", api.FaultInput: "input",
		api.FaultHeap: "heap", api.FaultFrames: "frames", api.FaultOut: "output", api.FaultSteps: "steps", api.FaultKind: "kind",
	} {
		expect(t, fmt.Sprint("the fault ", int(f)), Fault(f), want)
	}
	for _, f := range append(notFaults, api.NoFault) {
		expect(t, fmt.Sprint("the fault ", int(f)), Fault(f), "")
	}
	for f := range 2000 {
		expect(t, fmt.Sprint("whether there is a name of ", f-1000), Fault(api.Fault(f-1000)) != "", f-1000 >= 1 && f-1000 <= 10)
	}
}

// wrongValues are not right among two objects.
func wrongValues() []api.Val {
	return []api.Val{
		{Kind: -1}, {Kind: 5}, {N: 1}, {S: "a"}, {Kind: api.VInt, N: 1, S: "a"}, bit(2), bit(-1), {Kind: api.VBool, S: "a"}, txt("\x00"), txt("\t"), txt("\x7f"), txt("é"), txt(strings.Repeat("a", 256)),
		{Kind: api.VStr, N: 1}, ref(2), ref(-1), ref(least), ref(most), {Kind: api.VRef, S: "a"},
	}
}

// P16.1: a value that is not right is refused, in whichever frame and behind whichever variables.
func TestWrongValues(t *testing.T) {
	h := objects(obj("", num(1)), obj("P"))
	for _, w := range wrongValues() {
		for at := range 3 {
			for which := range 3 {
				v := api.View{}
				for n := range 3 {
					v.Look.Frames = append(v.Look.Frames, frame("f", n, named("a", num(1)), named("b", ref(1)), named("c", none)))
				}
				expectShown(t, "all are right", v, h, "at 0 running", "> f:2 a=1 b=P() c=none", "  f:1 a=1 b=P() c=none", "  f:0 a=1 b=P() c=none", "ok")
				v.Look.Frames[at].Vars[which].Value = w
				expectRefused(t, fmt.Sprintf("%.100s in frame %d", told(w), at), v, h, api.ErrArg)
			}
		}
	}
}

// P16.1: what is right hangs on how many objects there are.
func TestReferences(t *testing.T) {
	l := []api.Obj{obj("P", num(5)), obj(""), obj("Q", ref(0), ref(2))}
	shown := []string{"P(5)", "[]", "Q(P(5), Q(..., ...))"}
	for n := range 4 {
		h := objects(l[:min(n, 2)]...)
		if n == 3 {
			h = objects(l...)
		}
		for to := range 4 {
			v := api.View{Look: api.Look{Frames: []api.Frame{frame("f", 1, named("p", ref(to)))}}}
			if to < len(h.All()) {
				expectShown(t, "a reference", v, h, "at 0 running", "> f:1 p="+shown[to], "ok")
			} else {
				expectRefused(t, "a reference to none", v, h, api.ErrArg)
			}
		}
	}
}

// P16.1: values are shown as the heap shows them.
func TestValues(t *testing.T) {
	h := objects(obj("", num(1), bit(0), txt("q")), obj("P", ref(0), ref(1)), obj("", make9()...), obj("", txt(strings.Repeat("y", 255))))
	v := api.View{Look: api.Look{Frames: []api.Frame{frame("main", 12,
		named("n", num(-4)), named("least", num(least)), named("t", bit(1)), named("f", bit(0)), named("s", txt("x\n \"\\")), named("e", txt("")), named("no", none), named("l", ref(0)), named("p", ref(1)), named("many", ref(2)))}}}
	expectShown(t, "values", v, h, "at 0 running",
		`> main:12 n=-4 least=-9223372036854775808 t=true f=false s="x\n \"\\" e="" no=none l=[1, false, "q"] p=P([1, false, "q"], P(..., ...)) many=[0, 1, 2, 3, 4, 5, 6, 7, ...]`, "ok")
	// The heap cuts what it shows of a value, and the line is cut once more.
	long := `["` + strings.Repeat("y", 195) + "..."
	expect(t, "how the heap shows a long text", h.Show(ref(3)), long)
	v.Look.Frames = []api.Frame{frame("f", 1, named("l", ref(3)), named("m", num(1)))}
	expectShown(t, "a value of 200 bytes", v, h, "at 0 running", "> f:1 l="+long[:189]+"...", "ok")
}

func make9() []api.Val {
	var l []api.Val
	for n := range 9 {
		l = append(l, num(n))
	}
	return l
}

// P16.1: frames, the innermost first, and which one is selected.
func TestFrames(t *testing.T) {
	for many := range 70 {
		v := api.View{}
		for n := range many {
			v.Look.Frames = append(v.Look.Frames, frame(fmt.Sprint("f", n), 100+n, named("n", num(n))))
		}
		for _, sel := range []int{least, -2, -1, 0, 1, 2, many / 2, many - 2, many - 1, many, many + 1, 1 << 32, most} {
			v.Sel = sel
			want := []string{"at 0 running"}
			for n := range many {
				mark := "  "
				if n == sel {
					mark = "> "
				}
				at := many - 1 - n
				want = append(want, fmt.Sprintf("%sf%d:%d n=%d", mark, at, 100+at, at))
			}
			expectShown(t, fmt.Sprintf("%d frames, %d is selected", many, sel), v, heap.New(0), append(want, "ok")...)
		}
	}
}

// P16.1: the innermost frame, the outermost one, one between, and none.
func TestSelected(t *testing.T) {
	v := api.View{Look: api.Look{Frames: []api.Frame{frame("main", 1), frame("f", 2), frame("g", 3)}}}
	for sel, want := range map[int][]string{
		0: {"> g:3", "  f:2", "  main:1"}, 1: {"  g:3", "> f:2", "  main:1"}, 2: {"  g:3", "  f:2", "> main:1"}, 3: {"  g:3", "  f:2", "  main:1"}, -1: {"  g:3", "  f:2", "  main:1"},
	} {
		v.Sel = sel
		expectShown(t, fmt.Sprint(sel), v, heap.New(0), slices.Concat([]string{"at 0 running"}, want, []string{"ok"})...)
	}
}

// P16.1: frames without variables, with several of one name, with empty names; frames of a run that is done.
func TestOddFrames(t *testing.T) {
	v := api.View{Look: api.Look{Status: api.Done, Frames: []api.Frame{frame("main", 0), frame("", -3, named("", num(1)), named("a", num(2)), named("a", num(3)), named("=", none))}}, Sel: 1}
	expectShown(t, "odd frames", v, heap.New(0), "at 0 done", "  :-3 =1 a=2 a=3 ==none", "> main:0", "ok")
}

// numbers are those that are told in digits, with a - ahead of one below 0.
var numbers = map[int]string{
	0: "0", 1: "1", -1: "-1", 9: "9", 10: "10", -10: "-10", 123456789: "123456789", 1 << 31: "2147483648", -1 << 31: "-2147483648",
	most: "9223372036854775807", least: "-9223372036854775808", least + 1: "-9223372036854775807",
}

func TestNumbers(t *testing.T) {
	for n, s := range numbers {
		v := api.View{
			Look:  api.Look{Pos: n, Frames: []api.Frame{frame("f", n, named("n", num(n)))}},
			Stops: []api.Stop{{Id: n, Line: n}, {Id: n, Line: n, Cond: "c"}, {Id: n, Watch: "w"}, {Id: n, Line: n, Off: true}},
			Last:  api.Reply{N: n, Says: "x"},
		}
		last := "ok " + s + " x"
		if n == 0 {
			last = "ok x"
		}
		expectShown(t, s, v, heap.New(0), "at "+s+" running", "> f:"+s+" n="+s, "#"+s+" line "+s, "#"+s+" line "+s+" if c", "#"+s+" watch w", "#"+s+" line "+s+" off", last)
		v = api.View{Look: api.Look{Pos: n, Status: api.Faulty, Fault: api.FaultDiv}, Last: api.Reply{Err: api.Errno(n)}}
		last = "error " + s
		if n == 0 {
			last = "ok"
		}
		expectShown(t, s, v, heap.New(0), "at "+s+" fault division", last)
		v.Look.Status, v.Look.Fault = api.Done, 0
		expectShown(t, s, v, heap.New(0), "at "+s+" done", last)
	}
}

// P16.1: the last four lines of an output; what no byte 10 ends is none.
func TestOutput(t *testing.T) {
	for out, want := range map[string]string{
		"":                           "",
		"a":                          "",
		"a\n":                        "| a;",
		"a\nb":                       "| a;",
		"\n":                         "| ;",
		"\na":                        "| ;",
		"\n\n":                       "| ;| ;",
		"a\nb\nc\n":                  "| a;| b;| c;",
		"a\nb\nc\nd":                 "| a;| b;| c;",
		"a\nb\nc\nd\n":               "| a;| b;| c;| d;",
		"a\nb\nc\nd\ne":              "| a;| b;| c;| d;",
		"a\nb\nc\nd\ne\n":            "| b;| c;| d;| e;",
		"a\nb\nc\nd\ne\nf":           "| b;| c;| d;| e;",
		"\n\n\n":                     "| ;| ;| ;",
		"\n\n\n\n":                   "| ;| ;| ;| ;",
		"\n\n\n\n\n":                 "| ;| ;| ;| ;",
		"\n\n\n\n\n\na":              "| ;| ;| ;| ;",
		"a\n\n\n\n\n":                "| ;| ;| ;| ;",
		"a\n\nb\n":                   "| a;| ;| b;",
		"x\na\n\nb\n\n":              "| a;| ;| b;| ;",
		" a \n  \n":                  "|  a ;|   ;",
		"| a\n# b\n> c\nat 1 done\n": "| | a;| # b;| > c;| at 1 done;",
		"a\rb\r\n":                   "| a?b?;",
		"a\x00b\n":                   "| a?b;",
	} {
		l := strings.Split("at 0 running;"+want+"ok", ";")
		expectShown(t, fmt.Sprintf("the output %q", out), api.View{Look: api.Look{Out: out}}, heap.New(0), l...)
		// It stands behind the frames, and ahead of the stops.
		v := api.View{Look: api.Look{Out: out, Frames: []api.Frame{frame("f", 1)}}, Stops: []api.Stop{{Id: 1, Line: 2}}, Sel: 9}
		expectShown(t, fmt.Sprintf("the output %q", out), v, heap.New(0), strings.Split("at 0 running;  f:1;"+want+"#1 line 2;ok", ";")...)
	}
}

func TestLongOutput(t *testing.T) {
	var out strings.Builder
	for n := range 100000 {
		fmt.Fprintln(&out, n)
	}
	expectShown(t, "many lines", api.View{Look: api.Look{Out: out.String() + "x"}}, heap.New(0), "at 0 running", "| 99996", "| 99997", "| 99998", "| 99999", "ok")
	expectShown(t, "no line", api.View{Look: api.Look{Out: strings.Repeat("x", 100000)}}, heap.New(0), "at 0 running", "ok")
	expectShown(t, "one line", api.View{Look: api.Look{Out: strings.Repeat("x", 100000) + "\n"}}, heap.New(0), "at 0 running", "| "+strings.Repeat("x", 195)+"...", "ok")
}

// P16.1: stops of each kind, with and without a condition, on and off.
func TestStops(t *testing.T) {
	v := api.View{Stops: []api.Stop{
		{Id: 1, Line: 3}, {Id: 2, Line: 3, Off: true}, {Id: 3, Line: 4, Cond: "a > 1"}, {Id: 5, Line: 4, Cond: "a > 1", Off: true}, {Id: 8, Watch: "p.x"}, {Id: 13, Watch: "p.x", Off: true},
	}}
	expectShown(t, "stops", v, heap.New(0), "at 0 running", "#1 line 3", "#2 line 3 off", "#3 line 4 if a > 1", "#5 line 4 if a > 1 off", "#8 watch p.x", "#13 watch p.x off", "ok")
	// They are shown in the order in which they stand, be it any, and as often as they stand there.
	v = api.View{Stops: []api.Stop{{Id: 9, Line: 1}, {Id: -2, Watch: " "}, {Id: 9, Line: 1}, {Line: 0}}}
	expectShown(t, "other stops", v, heap.New(0), "at 0 running", "#9 line 1", "#-2 watch  ", "#9 line 1", "#0 line 0", "ok")
	v.Stops = nil
	want := []string{"at 0 running"}
	for n := range 100 {
		v.Stops = append(v.Stops, api.Stop{Id: n, Line: -n})
		want = append(want, fmt.Sprintf("#%d line %d", n, -n))
	}
	expectShown(t, "many stops", v, heap.New(0), append(want, "ok")...)
}

// P16.1: the last reply, with and without an Err, an N and a text.
func TestLast(t *testing.T) {
	for r, want := range map[api.Reply]string{
		{}: "ok", {N: 3}: "ok 3", {Says: "x"}: "ok x", {N: 3, Says: "x"}: "ok 3 x", {N: -3, Says: "-3"}: "ok -3 -3",
		{Err: 8}: "error 8", {Err: 8, N: 3}: "error 8 3", {Err: 8, Says: "x"}: "error 8 x", {Err: 8, N: 3, Says: "x y"}: "error 8 3 x y",
		{Err: -1}: "error -1", {Err: 19}: "error 19", {Err: 18}: "error 18", {Err: 1}: "error 1", {Says: " "}: "ok  ", {Says: "\n"}: "ok ?", {Says: "ok"}: "ok ok",
	} {
		expectShown(t, told(r), api.View{Last: r}, heap.New(0), "at 0 running", want)
	}
}

// P16.1: how long a line may be, of each kind.
func TestLongLines(t *testing.T) {
	for n, k := range kinds {
		for _, size := range []int{1, 50, 196, 197, 198, 199, 200, 201, 202, 203, 204, 250, 255, 256, 1000, 10000} {
			room := size - len(k.ahead) - len(behind[n])
			if room < 1 {
				continue
			}
			text := strings.Repeat("abcdefghi ", 1000)[:room]
			whole := k.ahead + text + behind[n]
			want := whole
			if size > 200 {
				want = whole[:197] + "..."
			}
			got := one(t, k.of(text), k.at)
			expect(t, fmt.Sprintf("%s: a line of %d bytes", k.name, size), got, want)
			expect(t, fmt.Sprintf("%s: the size of a line of %d bytes", k.name, size), len(got), min(size, 200))
		}
	}
}

// P16.1: a frame's line is as long as all its variables make it.
func TestLongFrames(t *testing.T) {
	whole := "> f:1"
	v := api.View{Look: api.Look{Frames: []api.Frame{frame("f", 1)}}}
	f := &v.Look.Frames[0]
	for n := range 60 {
		s := strings.Repeat("v", 1+n%7)
		f.Vars = append(f.Vars, named(s, num(n)))
		whole += fmt.Sprintf(" %s=%d", s, n)
		want := whole
		if len(whole) > 200 {
			want = whole[:197] + "..."
		}
		expectShown(t, "a long frame", v, heap.New(0), "at 0 running", want, "ok")
	}
}

// P16.1: each byte by itself, ahead of, within and behind others, at each kind of line; also where the line is cut.
func TestBytesOfTexts(t *testing.T) {
	for n, k := range kinds {
		for c := range 256 {
			if c == '\n' && k.name == "a line of the output" {
				continue // it ends that line
			}
			b, shown := string([]byte{byte(c)}), string(rune(c))
			if c < 32 || c > 126 {
				shown = "?"
			}
			for _, form := range []string{"%", "a%", "%b", "a%b%"} {
				text, want := strings.ReplaceAll(form, "%", b), strings.ReplaceAll(form, "%", shown)
				expect(t, fmt.Sprintf("%s: %q", k.name, text), one(t, k.of(text), k.at), k.ahead+want+behind[n])
			}
			for _, size := range []int{194, 195, 196, 197, 198, 199, 200, 201} {
				ahead := strings.Repeat("x", size-len(k.ahead))
				whole := k.ahead + ahead + shown + behind[n]
				if len(whole) > 200 {
					whole = whole[:197] + "..."
				}
				expect(t, fmt.Sprintf("%s: the byte %d behind %d", k.name, c, size), one(t, k.of(ahead+b), k.at), whole)
			}
			many := k.ahead + strings.Repeat(shown, 300)
			expect(t, fmt.Sprintf("%s: the byte %d often", k.name, c), one(t, k.of(strings.Repeat(b, 300)), k.at), many[:197]+"...")
		}
	}
}

// P16.1: a sign of several bytes is as many ?.
func TestBytesNotSigns(t *testing.T) {
	for n, k := range kinds {
		expect(t, k.name, one(t, k.of("é€😀\xff\xc3"), k.at), k.ahead+strings.Repeat("?", 2+3+4+2)+behind[n])
	}
}

// P16.4: there are as many lines as frames, stops, lines of output and two, and none has a byte 10.
func TestOneLineEach(t *testing.T) {
	for frames := range 5 {
		for stops := range 5 {
			for lines := range 8 {
				v := api.View{Sel: 1, Last: api.Reply{Err: 3, Says: "\n\n"}}
				for range frames {
					v.Look.Frames = append(v.Look.Frames, frame("f\n", 1, named("\n", txt("\n"))))
				}
				for range stops {
					v.Stops = append(v.Stops, api.Stop{Id: 1, Line: 1, Cond: "\n"}, api.Stop{Id: 2, Watch: "\n\n", Off: true})
				}
				v.Look.Out = strings.Repeat("\r\n", lines) + "x"
				l, err := Lines(v, heap.New(0))
				expect(t, "error", err, api.OK)
				expectOneEach(t, "lines", v, l)
				expect(t, "how many", len(l), frames+2*stops+min(lines, 4)+2)
				b, err := Bytes(v, heap.New(0))
				expect(t, "error", err, api.OK)
				expect(t, "bytes 10", strings.Count(string(b), "\n"), len(l))
			}
		}
	}
}

// P16.5: objects to which no variable leads are nothing to it, nor how much a heap may use.
func TestOtherObjects(t *testing.T) {
	l := []api.Obj{obj("P", num(5), ref(1)), obj("", txt("s"))}
	v := example()
	v.Look.Frames[0].Vars = append(v.Look.Frames[0].Vars, named("p", ref(0)))
	want := []string{"at 3 running", "> f:2 n=1", `  main:8 i=0 p=P(5, ["s"])`, "| a", "#1 line 3 if n > 0", "ok 1"}
	expectShown(t, "with just these objects", v, objects(l...), want...)
	expectShown(t, "with others", v, objects(append(l, obj("Q", ref(0), ref(2), num(7)), obj(""))...), want...)
	small, err := heap.Load(5, l)
	expect(t, "the test's own", err, api.OK)
	expectShown(t, "in a heap that is full", v, small, want...)
	expectShown(t, "in a copy", v, small.Copy(), want...)
}
