package command

import (
	"bytes"
	"fmt"
	"reflect"
	"strconv"
	"strings"
	"testing"

	"hindcast/api"
	"hindcast/wire"
)

// The calls have the chapter's signatures.
func TestFace(t *testing.T) {
	expect(t, "Check", reflect.TypeOf(Check), reflect.TypeFor[func(api.Cmd) api.Errno]())
	expect(t, "Parse", reflect.TypeOf(Parse), reflect.TypeFor[func(string) (api.Cmd, api.Errno)]())
	expect(t, "Print", reflect.TypeOf(Print), reflect.TypeFor[func(api.Cmd) (string, api.Errno)]())
	expect(t, "Put", reflect.TypeOf(Put), reflect.TypeFor[func([]byte, api.Cmd) []byte]())
	expect(t, "Get", reflect.TypeOf(Get), reflect.TypeFor[func(*wire.Reader) api.Cmd]())
}

// The chapter's examples.
func TestExamples(t *testing.T) {
	expectText(t, "back-step", api.Cmd{Kind: api.CmdBackStep})
	expectText(t, "break 12 if a > 1", api.Cmd{Kind: api.CmdBreak, N: 12, S: "a > 1"})
	expectText(t, "goto 0", api.Cmd{Kind: api.CmdGoto})
	expectNone(t, "goto 01", "goto", "step 1", "watch", "break 1 if", "print 1 +")
}

// P17.1, P17.2: each of the seventeen kinds has a text of its own.
func TestKinds(t *testing.T) {
	for _, s := range bare {
		expectText(t, s, api.Cmd{Kind: kindOf(s)})
	}
	for _, s := range append(withN, "break") {
		expectText(t, s+" 1", api.Cmd{Kind: kindOf(s), N: 1})
		expectText(t, s+" 90", api.Cmd{Kind: kindOf(s), N: 90})
	}
	for _, s := range withS {
		expectText(t, s+" a", api.Cmd{Kind: kindOf(s), S: "a"})
	}
	expect(t, "so many kinds", len(bare)+len(withN)+len(withS)+1, 17)
}

// P17.1, P17.2: what is no kind is no command, whatever it has.
func TestNoKinds(t *testing.T) {
	for _, k := range []api.CmdKind{0, 18, -1, 19, -17, 255, 256, 257, 266, 1 << 32, 1<<32 + 1, least, least + 1, most} {
		for _, n := range []int{0, 1, 7, -1, api.MaxSteps} {
			for _, s := range []string{"", "a", "1 +"} {
				expectWrong(t, api.Cmd{Kind: k, N: n, S: s})
			}
		}
	}
}

// P17.1, P17.2: a kind has just what api says of it.
func TestWhatKindsHave(t *testing.T) {
	for _, s := range bare {
		for _, n := range []int{1, -1, api.MaxSteps, least, most} {
			expectWrong(t, api.Cmd{Kind: kindOf(s), N: n})
		}
		for _, e := range []string{"a", "1 +", " "} {
			expectWrong(t, api.Cmd{Kind: kindOf(s), S: e})
			expectWrong(t, api.Cmd{Kind: kindOf(s), N: 1, S: e})
		}
	}
	for _, s := range withN {
		for _, e := range []string{"a", "1 +", " "} {
			expectWrong(t, api.Cmd{Kind: kindOf(s), N: 1, S: e})
		}
	}
	for _, s := range withS {
		for _, n := range []int{1, -1, api.MaxSteps, least, most} {
			expectWrong(t, api.Cmd{Kind: kindOf(s), N: n, S: "a"})
		}
	}
}

// P17.1, P17.2: the bounds of N, also where they stand in a text.
func TestN(t *testing.T) {
	for _, n := range []int{1, 2, 9, 10, 100, api.MaxSteps - 1, api.MaxSteps} {
		for _, s := range append(withN, "break") {
			expectText(t, s+" "+strconv.Itoa(n), api.Cmd{Kind: kindOf(s), N: n})
		}
		expectText(t, fmt.Sprintf("break %d if a", n), api.Cmd{Kind: api.CmdBreak, N: n, S: "a"})
	}
	for _, n := range []int{-1, -2, api.MaxSteps + 1, api.MaxSteps + 2, -api.MaxSteps, least, least + 1, most, most - 1} {
		for _, s := range append(withN, "break") {
			expectWrong(t, api.Cmd{Kind: kindOf(s), N: n})
			expectNone(t, s+" "+strconv.Itoa(n))
		}
		expectWrong(t, api.Cmd{Kind: api.CmdBreak, N: n, S: "a"})
		expectNone(t, fmt.Sprintf("break %d if a", n))
	}
	expectText(t, "goto 0", api.Cmd{Kind: api.CmdGoto})
	for _, s := range []string{"delete", "enable", "disable", "break"} {
		expectWrong(t, api.Cmd{Kind: kindOf(s)})
		expectNone(t, s+" 0")
	}
	expectWrong(t, api.Cmd{Kind: api.CmdBreak, S: "a"})
	expectNone(t, "break 0 if a")
}

// P17.2: N stands in decimal digits without noughts ahead, of any number of which it is no more than MaxSteps.
func TestHowNIsWritten(t *testing.T) {
	wrong := []string{
		"", "00", "01", "000000007", "-0", "+0", "+1", "-1", "1.0", "1e2", "0x1", "0b1", "0o1", "1_0", "1,0", "a", "1a", "a1", "1 ", " 1", "1 1", "1\n", "\t1", "1\x00", "-", "+",
		"٣", "１", "4294967297", "9223372036854775807", "9223372036854775808", "18446744073709551616", "18446744073709551617", "10000000000000000000", "00000000000000000001",
		"340282366920938463463374607431768211457", strings.Repeat("9", 400), strings.Repeat("0", 400) + "1", "1" + strings.Repeat("0", 5000),
	}
	for _, s := range append(withN, "break") {
		for _, n := range wrong {
			expectNone(t, s+" "+n, s+"\t"+n, s+"\n"+n, s+","+n)
		}
		expectNone(t, s, s+" ", s+"1", s+" a", s+" 1 a", s+"  1", s+" 1 ", " "+s+" 1")
	}
	for _, n := range wrong {
		expectNone(t, "break "+n+" if a")
	}
}

// P17.1, P17.2: which texts an S may be.
func TestS(t *testing.T) {
	right := []string{
		"a", "1", `"if"`, "true", "a > 1", "a>1", "f(a, 2)", "new P(1)", "[1, 2]", "a.b[0]", "-a", "!a", "(a)", " a", "a ", "  a  ", "\ta\n", "a // x", "// x\na", "a // if b", "007",
		`"a if b"`, `x == " if "`, "a\n>\n1", `"\\\"\n"`, "a//", "(((a)))", "12345678901234567890 // "[:19],
	}
	for _, s := range right {
		for _, w := range withS {
			expectText(t, w+" "+s, api.Cmd{Kind: kindOf(w), S: s})
		}
		expectText(t, "break 3 if "+s, api.Cmd{Kind: api.CmdBreak, N: 3, S: s})
	}
	wrong := []string{
		" ", "\n", "// x", "1 +", "a b", "a;", "let a = 1;", "fn", "if", "if a", "a if b", "(a", "a)", "a = 1", "\"a", "a\x00", "\x00", "\xff", "a\xff", "é", "a\r", "a\v", "#", "'a'", "9223372036854775808",
		strings.Repeat("a", 21), strings.Repeat("-", 24) + "a", strings.Repeat("!", 30) + "a", "\"\x7f\"", "a..b", "[]]", "f(,)",
	}
	for _, s := range wrong {
		for _, w := range withS {
			expectWrong(t, api.Cmd{Kind: kindOf(w), S: s})
			expectNone(t, w+" "+s)
		}
		expectWrong(t, api.Cmd{Kind: api.CmdBreak, N: 3, S: s})
		expectNone(t, "break 3 if "+s)
	}
	for _, w := range withS {
		expectWrong(t, api.Cmd{Kind: kindOf(w)})
		expectNone(t, w, w+" ", w+"a", w+"\ta", w+"\na", w+"(a)", w+` "a`, " "+w+" a")
	}
}

// P17.1, P17.2: an S has at most MaxText bytes, blanks and remarks included.
func TestLongS(t *testing.T) {
	for _, n := range []int{254, 255, 256, 257, 300, 5000} {
		for _, s := range []string{long(n), strings.Repeat(" ", n-1) + "a", "a" + strings.Repeat("\n", n-1), "a//" + strings.Repeat("x", n-3), `"` + strings.Repeat("x", min(n, 255)-2) + `"` + strings.Repeat(" ", n-min(n, 255))} {
			expect(t, "the test's length", len(s), n)
			for _, c := range []api.Cmd{{Kind: api.CmdWatch, S: s}, {Kind: api.CmdPrint, S: s}, {Kind: api.CmdBreak, N: 1, S: s}, {Kind: api.CmdBreak, N: api.MaxSteps, S: s}} {
				if n > 255 {
					expectWrong(t, c)
					expectNone(t, modelPrint(c))
				} else {
					expectText(t, modelPrint(c), c)
				}
			}
		}
	}
}

// P17.1: how deep an S may be is what syntax.Expr says.
func TestDeepS(t *testing.T) {
	for _, n := range []int{22, 23, 24, 25} {
		c := api.Cmd{Kind: api.CmdPrint, S: strings.Repeat("-", n) + "a"}
		if n < 24 {
			expectText(t, "print "+c.S, c)
		} else {
			expectWrong(t, c)
			expectNone(t, "print "+c.S)
		}
	}
}

// P17.2, P17.4: a breakpoint's text with a condition, and without one.
func TestBreak(t *testing.T) {
	expectText(t, "break 3", api.Cmd{Kind: api.CmdBreak, N: 3})
	expectText(t, "break 3 if a", api.Cmd{Kind: api.CmdBreak, N: 3, S: "a"})
	expectText(t, "break 3 if  a", api.Cmd{Kind: api.CmdBreak, N: 3, S: " a"})
	expectText(t, "break 3 if \na", api.Cmd{Kind: api.CmdBreak, N: 3, S: "\na"})
	expectText(t, "break 3 if a ", api.Cmd{Kind: api.CmdBreak, N: 3, S: "a "})
	expectNone(t,
		"break", "break ", "break  ", "break if", "break if a", "break  if a", "break 3 ", "break 3 i", "break 3 if", "break 3 if ", "break 3 if  ", "break 3 if if", "break 3 if if a", "break 3 IF a", "break 3 If a", "break 3 iff a", "break 3 if(a)",
		"break 3 a", "break 3 x a", "break 3  if a", "break  3", "break  3 if a", "break 3if a", "break 3 ifa", "break 3\tif a", "break 3 if\ta", "break 3\nif a", "break 3 if a if b", "break 3 4 if a", "break3 if a", "break 3 // x", "break 3 if // x", "break 3 when a")
}

// P17.2: a word stands as it is, with nothing ahead or behind, of small letters.
func TestWords(t *testing.T) {
	for _, c := range all() {
		s, _ := Print(c)
		word, rest, _ := strings.Cut(s, " ")
		if rest != "" {
			rest = " " + rest
		}
		for i := range word {
			expectNone(t, word[:i]+strings.ToUpper(word[i:i+1])+"-"+word[i+1:]+rest)
			if word[i] != '-' {
				expectNone(t, word[:i]+strings.ToUpper(word[i:i+1])+word[i+1:]+rest)
			}
			expectNone(t, word[:i]+rest, word[:i]+word[i+1:]+rest, word[:i]+"-"+word[i:]+rest, word[:i]+" "+word[i:]+rest)
		}
		expectNone(t, word+"s"+rest, word+"-"+rest, word+"\x00"+rest, word+";"+rest, " "+s, "\t"+s, "\n"+s, "-"+s, "back"+s, "back "+s, "x"+s, `"`+s+`"`, strings.ToUpper(word)+rest)
		if rest == "" {
			expectNone(t, s+"\x00", s+";", s+" ", s+"  ", s+"\n", s+"\t", s+"1", s+" 1", s+" 0", s+" a", s+" if a", s+" // x", s+"()")
		}
	}
	expectNone(t, "", " ", "\n", "\x00", "-", "back", "back-", "back-up", "back-down", "back-goto 1", "back-print a", "//", "if", "if a", "1", "a", "0 goto", "s", "n", "c", "b 1", "p a", "quit", "help", "goto goto", "goto a", "watch 1 +", "print,a")
}

// P17.2, P17.4: there and back.
func TestThereAndBack(t *testing.T) {
	for _, c := range all() {
		s, err := Print(c)
		expect(t, "Print", err, api.OK)
		expectText(t, s, c)
		expect(t, "the model's text", modelPrint(c), s)
	}
}

// P17.3: the very bytes, of commands that are right and of others.
func TestPut(t *testing.T) {
	expect(t, "a step", fmt.Sprintf("% x", Put(nil, api.Cmd{Kind: api.CmdStep})), "02 00 00")
	expect(t, "a break", fmt.Sprintf("% x", Put([]byte{9, 8}, api.Cmd{Kind: api.CmdBreak, N: 300, S: "a>1"})), "09 08 14 d8 04 06 61 3e 31")
	expect(t, "none", fmt.Sprintf("% x", Put([]byte{}, api.Cmd{})), "00 00 00")
	expect(t, "wrong", fmt.Sprintf("% x", Put(nil, api.Cmd{Kind: -1, N: least, S: "\xff"})), "01 ff ff ff ff ff ff ff ff ff 01 02 ff")
	for _, c := range append(append(all(), wrongs()...), api.Cmd{Kind: api.CmdPrint, S: long(256)}, api.Cmd{S: strings.Repeat("\x80", 70000)}) {
		for _, b := range [][]byte{nil, {}, {0}, {1, 2, 3}, bytes.Repeat([]byte{128}, 300)} {
			expect(t, "Put", string(Put(b, c)), string(b)+string(modelBytes(c)))
		}
	}
}

// P17.3, P17.4: what is got is what was put, whatever stands behind; it need not be right.
func TestGet(t *testing.T) {
	for _, c := range append(all(), wrongs()...) {
		for _, behind := range []string{"", "\x00", "\x80", "\xff\xff\xff", "abc", string(Put(nil, c))} {
			b := Put(nil, c)
			r := wire.NewReader(append(b, behind...))
			expect(t, "Get", Get(r), c)
			expect(t, "where the reader stands", r.At(), len(b))
			expect(t, "how the reader is", r.Err(), api.OK)
			want := api.OK
			if behind != "" {
				want = api.ErrBig
			}
			expect(t, "the end", r.End(), want)
		}
	}
}

// P17.3: bytes that are cut off tell no command, wherever that is.
func TestCutOff(t *testing.T) {
	for _, c := range append(all(), wrongs()...) {
		b := Put(nil, c)
		for n := range b {
			expectUnwell(t, fmt.Sprintf("%d bytes of %+v", n, c), wire.NewReader(b[:n]), api.ErrShort)
		}
	}
}

// P17.3, P17.4: a text of at most MaxText bytes is got.
func TestGetLong(t *testing.T) {
	for _, n := range []int{254, 255, 256, 257, 1000} {
		c := api.Cmd{Kind: api.CmdStep, N: -5, S: strings.Repeat("\n", n)}
		r := wire.NewReader(Put(nil, c))
		if n <= 255 {
			expect(t, "Get", Get(r), c)
			expect(t, "the reader", r.End(), api.OK)
		} else {
			expectUnwell(t, "too long", r, api.ErrBig)
			expect(t, "where it stays", r.At(), 2)
		}
	}
}

// P17.3: bytes that are no numbers, and no text, tell no command.
func TestGetWrong(t *testing.T) {
	long := strings.Repeat("\xff", 9)
	for s, want := range map[string]api.Errno{
		"":                         api.ErrShort,
		"\x80":                     api.ErrShort,
		"\x80\x00\x00\x00":         api.ErrFormat,
		long + "\x02\x00\x00":      api.ErrFormat,
		"\x02\x80\x00\x00":         api.ErrFormat,
		"\x02" + long + "\x02":     api.ErrFormat,
		"\x02\x00\x80\x00":         api.ErrFormat,
		"\x02\x00\x01":             api.ErrFormat, // a text of -1 bytes
		"\x02\x00\x02":             api.ErrShort,
		"\x02\x00\x80\x04":         api.ErrBig, // of 256 bytes, of which none is there
		"\x02\x00" + long + "\x01": api.ErrFormat,
	} {
		expectUnwell(t, fmt.Sprintf("%x", s), wire.NewReader([]byte(s)), want)
	}
}

// P17.3: of a reader that is not well, of none, and of one that nothing made, nothing is got.
func TestUnwell(t *testing.T) {
	for _, c := range all() {
		b := Put([]byte{7}, c)
		r := wire.NewReader(b)
		r.Bool()
		expectUnwell(t, "a reader that is not well", r, api.ErrFormat)
		expect(t, "where it stays", r.At(), 0)
	}
	r := wire.NewReader(nil)
	r.Int()
	expectUnwell(t, "a reader that came to the end", r, api.ErrShort)
	expectUnwell(t, "no reader", nil, api.ErrNil)
	expectUnwell(t, "a reader that nothing made", &wire.Reader{}, api.ErrNil)
}

// P17.3, P17.4: several put one behind the other are got so, also among other things.
func TestRow(t *testing.T) {
	l := append(all(), wrongs()...)
	var b []byte
	for i, c := range l {
		b = wire.PutInt(Put(b, c), i)
	}
	r := wire.NewReader(b)
	for i, c := range l {
		expect(t, "Get", Get(r), c)
		expect(t, "what stands between", r.Int(), i)
	}
	expect(t, "the end", r.End(), api.OK)
	expectUnwell(t, "behind the end", r, api.ErrShort)
}
