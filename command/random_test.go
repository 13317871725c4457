package command

import (
	"fmt"
	"math/rand/v2"
	"slices"
	"strings"
	"testing"

	"hindcast/api"
	"hindcast/wire"
)

// chance tells things by chance, the same each time.
type chance struct{ *rand.Rand }

func newChance(n, seed int) chance { return chance{rand.New(rand.NewPCG(uint64(n), uint64(seed)))} }

func of[T any](c chance, l ...T) T { return l[c.IntN(len(l))] }

func (c chance) number() int {
	return of(c, 0, 0, 1, 2, -1, c.IntN(100), c.IntN(1<<33), c.IntN(api.MaxSteps), api.MaxSteps, api.MaxSteps-1, api.MaxSteps+1, -c.IntN(1<<40), least, most, int(c.Uint64()))
}

// text tells one of pieces of commands, or of any bytes.
func (c chance) text() string {
	pieces := []string{
		"a", "b1", "1", "007", `"s"`, `"if"`, `" if "`, "true", " ", " ", "  ", "\n", "\t", "+", "-", "!", "&&", "<", ".", "(", ")", "[", "]", ",", "// r", "if", " if ", "else", "new", ";", "=",
		"\x00", "\xff", "é", "step", "goto", strings.Repeat("x", 20), strings.Repeat(" ", 230+c.IntN(30)), of(c, bare...), of(c, withN...), string([]byte{byte(c.IntN(256))}),
	}
	var b strings.Builder
	for range of(c, 0, 1, 1, 3, c.IntN(12)) {
		b.WriteString(of(c, pieces...))
	}
	return b.String()
}

// expr tells an expression's text, now and then with blanks and remarks about it.
func (c chance) expr() string {
	s := of(c, "a", "1", `"x if y"`, "true", "len(a)")
	for range c.IntN(8) {
		switch c.IntN(8) {
		case 0:
			s = "(" + s + ")"
		case 1:
			s = "-" + s
		case 2:
			s = "[" + s + ", b]"
		case 3:
			s += "[0]"
		case 4:
			s += ".f"
		default:
			s += of(c, "+", " - ", "\n*\n", "&&", " == ", "<") + of(c, "b", "2", "f(a)")
		}
	}
	return of(c, "", "", " ", "\n\t", "// r\n") + s + of(c, "", "", " ", "  ", " // if", strings.Repeat(" ", c.IntN(300)))
}

// command tells one that is often right.
func (c chance) command() api.Cmd {
	x := api.Cmd{Kind: api.CmdKind(c.IntN(20) - 1)}
	if c.IntN(40) == 0 {
		x.Kind = api.CmdKind(c.number())
	}
	word := slices.ContainsFunc(bare, func(s string) bool { return kindOf(s) == x.Kind })
	asked := slices.ContainsFunc(withS, func(s string) bool { return kindOf(s) == x.Kind })
	if !word && !asked || c.IntN(8) == 0 {
		x.N = of(c, c.number(), 1+c.IntN(api.MaxSteps))
	}
	if asked || x.Kind == api.CmdBreak && c.IntN(3) > 0 || c.IntN(8) == 0 {
		x.S = of(c, c.expr(), c.expr(), c.text())
	}
	return x
}

// written tells a text that is often a command's.
func (c chance) written() string {
	word := of(c, append(append(slices.Clone(bare), withN...), "break", "break", "break", "watch", "print", c.text())...)
	s := word
	blank := of(c, " ", " ", " ", " ", " ", "  ", "", "\t")
	if slices.Contains(withN, word) || word == "break" || c.IntN(20) == 0 {
		s += blank + of(c, fmt.Sprint(c.number()), fmt.Sprint(c.IntN(api.MaxSteps)), fmt.Sprint(c.IntN(100)), c.text(), fmt.Sprintf("%025d", c.number()))
	}
	if word == "break" && c.IntN(3) > 0 || c.IntN(20) == 0 {
		s += blank + of(c, "if", "if", "if", "if", "IF", "")
		s += blank + of(c, c.expr(), c.expr(), c.text())
	}
	if slices.Contains(withS, word) {
		s += blank + of(c, c.expr(), c.expr(), c.text())
	}
	return s
}

// spoilt tells a text with a byte changed, more, or fewer.
func (c chance) spoilt(s string) string {
	at := c.IntN(len(s) + 1)
	more := of(c, " ", "0", "-", "\n", string([]byte{byte(c.IntN(256))}))
	return s[:at] + of(c, more, "") + s[min(at+c.IntN(2), len(s)):]
}

// P17.1, P17.2, P17.4: commands by chance are checked and printed as the chapter's words say.
func TestCommandsByChance(t *testing.T) {
	seen := map[string]int{}
	for n := range 60000 {
		x := newChance(n, 1).command()
		if !modelCheck(x) {
			expectWrong(t, x)
			seen["wrong"]++
		} else {
			expectText(t, modelPrint(x), x)
			seen[fmt.Sprint("kind ", int(x.Kind))]++
		}
		if t.Failed() {
			t.Fatalf("the command %d", n)
		}
	}
	for k := range 17 {
		s := fmt.Sprint("kind ", k+1)
		if seen[s] < 200 {
			t.Errorf("%q: but %d times: %v", s, seen[s], seen)
		}
	}
	if seen["wrong"] < 10000 {
		t.Errorf("wrong: but %d times", seen["wrong"])
	}
}

// P17.2, P17.4: texts by chance are parsed as the chapter's patterns say, and what is taken is printed as it stood.
func TestTextsByChance(t *testing.T) {
	seen := map[string]int{}
	for n := range 60000 {
		c := newChance(n, 2)
		s := c.written()
		if c.IntN(4) == 0 {
			s = c.spoilt(s)
		}
		x, is := modelParse(s)
		if is {
			expectText(t, s, x)
			seen[fmt.Sprint("kind ", int(x.Kind))]++
			if x.Kind == api.CmdBreak && x.S != "" {
				seen["condition"]++
			}
		} else {
			expectNone(t, s)
			seen["none"]++
		}
		if t.Failed() {
			t.Fatalf("the text %d: %q", n, s)
		}
	}
	for k := range 17 {
		s := fmt.Sprint("kind ", k+1)
		if seen[s] < 200 {
			t.Errorf("%q: but %d times: %v", s, seen[s], seen)
		}
	}
	if seen["none"] < 10000 || seen["condition"] < 500 {
		t.Errorf("too few: %v", seen)
	}
}

// P17.3, P17.4: rows of commands by chance, right and wrong, are put as the chapter's words say, and got so.
func TestRowsByChance(t *testing.T) {
	for n := range 4000 {
		c := newChance(n, 3)
		ahead := []byte(c.text())
		b := slices.Clone(ahead)
		want := string(ahead)
		var l []api.Cmd
		for range 1 + c.IntN(5) {
			x := api.Cmd{Kind: api.CmdKind(c.number()), N: c.number(), S: c.text()}
			if c.IntN(2) == 0 {
				x = c.command()
			}
			x.S = x.S[:min(len(x.S), 255)]
			l = append(l, x)
			b = Put(b, x)
			want += string(modelBytes(x))
		}
		expect(t, "the bytes", string(b), want)
		r := wire.NewReader(slices.Concat(b[len(ahead):], []byte(c.text())))
		for _, x := range l {
			expect(t, "Get", Get(r), x)
			expect(t, "the reader", r.Err(), api.OK)
		}
		expect(t, "where the reader stands", r.At(), len(b)-len(ahead))
	}
}

// P17.3: of bytes by chance what is got is what stands there, and is put as these bytes; else the reader is not well.
func TestBytesByChance(t *testing.T) {
	got, not := 0, 0
	for n := range 40000 {
		c := newChance(n, 4)
		b := modelBytes(c.command())
		for range c.IntN(3) {
			b[c.IntN(len(b))] = byte(of(c, 0, 1, 2, 4, 127, 128, 129, 255, c.IntN(256)))
		}
		r := wire.NewReader(b)
		x := Get(r)
		if r.Err() == api.OK {
			expect(t, "the bytes", string(modelBytes(x)), string(b[:r.At()]))
			got++
			continue
		}
		expect(t, "nothing", x, api.Cmd{})
		twin := wire.NewReader(b)
		twin.Int()
		twin.Int()
		twin.Text(api.MaxText)
		expect(t, "what is wrong", r.Err(), twin.Err())
		expect(t, "where it stays", r.At(), twin.At())
		not++
	}
	if got < 5000 || not < 5000 {
		t.Errorf("%d got, %d not", got, not)
	}
}
