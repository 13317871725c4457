package show

import (
	"fmt"
	"math/rand/v2"
	"slices"
	"strings"
	"testing"

	"hindcast/api"
	"hindcast/compile"
	"hindcast/debug"
	"hindcast/heap"
)

// chance tells things by chance, the same each time.
type chance struct{ *rand.Rand }

func newChance(n, seed int) chance { return chance{rand.New(rand.NewPCG(uint64(n), uint64(seed)))} }

func of[T any](c chance, l ...T) T { return l[c.IntN(len(l))] }

func many[T any](c chance, most int, one func() T) []T {
	var l []T
	for range c.IntN(most + 1) {
		l = append(l, one())
	}
	return l
}

func (c chance) number() int {
	return of(c, 0, 1, -1, c.IntN(10), c.IntN(1000), -c.IntN(1000), c.IntN(5), 1<<31, -1<<31, most, least, least+1, most-1)
}

// text tells one of any bytes, now and then one that is about as long as a line may be, or longer.
func (c chance) text() string {
	size := of(c, 0, 1, 1, 3, 10, 40, 180+c.IntN(30), c.IntN(600))
	b := make([]byte, size)
	for i := range b {
		b[i] = byte(of(c, 'a', ' ', '=', '0', c.IntN(256), of(c, 0, 9, 10, 13, 31, 32, 126, 127, 128, 255), 32+c.IntN(95)))
	}
	return string(b)
}

// value tells one among n objects; now and then one that is not right.
func (c chance) value(n int) api.Val {
	if c.IntN(120) == 0 {
		return of(c, append(wrongValues(), ref(n), ref(n+1))...)
	}
	if n > 0 && c.IntN(2) == 0 {
		return ref(c.IntN(n))
	}
	return of(c, none, num(c.number()), bit(c.IntN(2)), txt(c.right()))
}

// right tells a text that a value may have.
func (c chance) right() string {
	b := make([]byte, of(c, 0, 1, 5, 50, 255))
	for i := range b {
		b[i] = byte(of(c, '\n', '"', '\\', 'a', 32+c.IntN(95)))
	}
	return string(b)
}

func (c chance) heap() *heap.Heap {
	if c.IntN(40) == 0 {
		return of(c, nil, &heap.Heap{})
	}
	n := of(c, 0, 1, 2, 5, 12)
	var l []api.Obj
	for range n {
		cells := many(c, of(c, 1, 3, 10), func() api.Val { return of(c, num(c.number()), bit(c.IntN(2)), txt(c.right()), ref(c.IntN(n))) })
		l = append(l, obj(of(c, "", "P", "Record"), cells...))
	}
	return objects(l...)
}

func (c chance) stop() api.Stop {
	s := api.Stop{Id: c.number(), Off: c.IntN(3) == 0}
	if c.IntN(2) == 0 {
		s.Watch = "w" + c.text()
		return s
	}
	s.Line = c.number()
	if c.IntN(2) == 0 {
		s.Cond = c.text()
	}
	return s
}

// output tells one of few lines, or of many.
func (c chance) output() string {
	lines := many(c, of(c, 0, 1, 3, 4, 5, 20), c.text)
	end := of(c, "", "\n", "\n", "\n\n", "\n\n\n\n\n")
	return strings.Join(lines, "\n") + end
}

func (c chance) view(objects int) api.View {
	v := api.View{Sel: of(c, 0, 0, c.IntN(6), c.number())}
	v.Look = api.Look{Pos: c.number(), Out: c.output()}
	v.Look.Status = of(c, api.Running, api.Done, api.Faulty, api.Faulty)
	if v.Look.Status == api.Faulty {
		v.Look.Fault = api.Fault(1 + c.IntN(10))
	}
	if c.IntN(10) == 0 {
		v.Look.Status, v.Look.Fault = api.Status(c.IntN(6)-1), api.Fault(c.IntN(15)-2)
	}
	v.Look.Frames = many(c, of(c, 0, 1, 4, 12), func() api.Frame {
		vars := many(c, of(c, 0, 2, 9), func() api.Bind { return named(c.text(), c.value(objects)) })
		return frame(c.text(), c.number(), vars...)
	})
	v.Stops = many(c, of(c, 0, 2, 16), c.stop)
	v.Last = api.Reply{Err: api.Errno(of(c, 0, 0, c.IntN(19), c.number())), N: of(c, 0, c.number()), Says: of(c, "", c.text())}
	return v
}

// Views by chance are shown as the chapter's words say.
func TestByChance(t *testing.T) {
	seen := map[string]int{}
	for n := range 20000 {
		c := newChance(n, 1)
		h := c.heap()
		v := c.view(len(h.All()))
		expectSame(t, fmt.Sprint("the view ", n), v, h)
		if t.Failed() {
			t.Fatalf("%+v", v)
		}
		l, err := Lines(v, h)
		seen[fmt.Sprint("error ", err)]++
		for _, s := range l {
			seen[s[:1]]++
			if len(s) == 200 && strings.HasSuffix(s, "...") {
				seen["cut"]++
			}
			if strings.Contains(s, "?") {
				seen["unshown"]++
			}
		}
	}
	for _, s := range []string{"error 0", "error 1", "error 2", "a", ">", " ", "|", "#", "o", "e", "cut", "unshown"} {
		if seen[s] < 200 {
			t.Errorf("%q: but %d times: %v", s, seen[s], seen)
		}
	}
}

// programs are run by debuggers.
var programs = []string{
	"fn f(n: int): int {\nlet k = n * 2;\nif n > 3 {\nreturn k;\n}\nreturn f(n + 1) + k;\n}\nfn main() {\nlet i = 0;\nwhile i < 4 {\nprint(i, f(i));\ni = i + 1;\n}\nprint(1 / (i - 4));\n}",
	"record P { x: int, s: str, l: [int] }\nfn set(p: P, i: int) {\np.x = i;\np.l[i] = i * i;\np.s = p.s + str(i) + \"\\n\";\nprint(p.s, p);\n}\nfn main() {\nlet p = new P(0, \"\", array(6, 0));\nlet i = 0;\nwhile true {\nset(p, i);\ni = i + 1;\n}\n}",
	"fn main() {\nlet s = \"0123456789012345678901234567890123456789\";\nlet l = [s];\nlet b = [[1 < 2]];\nwhile len(s) < 1000 {\ns = s + s;\nl[0] = s;\nprint(len(s), b, l);\n}\n}",
	"fn f(n: int) {\nf(n + 1);\n}\nfn main() {\nf(0);\n}",
	"fn main() {\nlet i = 0;\nwhile i < 3 {\nprint(i, \"a\\nb\");\ni = i + 1;\n}\n}",
	"fn main() {\nlet i = input();\nwhile true {\nprint(i, \"\");\ni = i + input();\n}\n}",
}

// commands are those that a debugger is gone through by.
func (c chance) command() api.Cmd {
	texts := []string{"i", "n", "p", "p.x", "l", "n > 2", "i == 2", "len(s)", "1 +", "s", "1 / 0"}
	switch c.IntN(10) {
	case 0:
		return api.Cmd{Kind: api.CmdGoto, N: c.IntN(60)}
	case 1:
		return api.Cmd{Kind: api.CmdBreak, N: c.IntN(14), S: of(c, append(texts, "", "")...)}
	case 2:
		return api.Cmd{Kind: api.CmdWatch, S: of(c, texts...)}
	case 3:
		return api.Cmd{Kind: of(c, api.CmdDelete, api.CmdEnable, api.CmdDisable, api.CmdDisable), N: 1 + c.IntN(8)}
	case 4:
		return api.Cmd{Kind: of(c, api.CmdUp, api.CmdUp, api.CmdDown)}
	case 5:
		return api.Cmd{Kind: api.CmdPrint, S: of(c, texts...)}
	}
	return api.Cmd{Kind: api.CmdKind(1 + c.IntN(8))}
}

// What debuggers show that are gone through by commands is what the chapter's words say.
func TestDebuggers(t *testing.T) {
	seen := map[string]int{}
	lim := api.Limits{Steps: 200, Heap: 100, Frames: 20, Out: 1000}
	for n := range 150 {
		c := newChance(n, 2)
		code, _, err := compile.Source(programs[n%len(programs)])
		if err != api.OK {
			t.Fatalf("the test is wrong: error %d of the program %d", err, n%len(programs))
		}
		d, err := debug.New(code, []int{3, -4, 5}, lim, 5, 9)
		if err != api.OK {
			t.Fatalf("the test is wrong: error %d", err)
		}
		for k := range 60 {
			v := d.View()
			expectSame(t, fmt.Sprintf("run %d, command %d", n, k), v, d.Heap())
			l, err := Lines(v, d.Heap())
			expect(t, "the error", err, api.OK)
			seen[strings.Join(strings.Fields(l[0])[2:], " ")]++
			seen[fmt.Sprint("selected ", min(v.Sel, 2))]++
			if slices.ContainsFunc(l, func(s string) bool { return strings.HasPrefix(s, "#") && strings.HasSuffix(s, " off") }) {
				seen["off"]++
			}
			d.Do(c.command())
		}
	}
	for _, s := range []string{"running", "done", "fault division", "fault index", "fault text", "fault frames", "fault input", "selected 0", "selected 1", "selected 2", "off"} {
		if seen[s] < 10 {
			t.Errorf("%q: but %d times: %v", s, seen[s], seen)
		}
	}
}
