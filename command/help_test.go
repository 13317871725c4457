package command

import (
	"fmt"
	"math/big"
	"regexp"
	"slices"
	"strings"
	"testing"

	"hindcast/api"
	"hindcast/syntax"
	"hindcast/wire"
)

const (
	least = -1 << 63
	most  = 1<<63 - 1
)

// The kinds by what they have, as the chapter lists them.
var (
	bare  = strings.Fields("step next finish continue back-step back-next back-finish back-continue up down")
	withN = strings.Fields("goto delete enable disable")
	withS = strings.Fields("watch print")
)

// kindOf tells a word's kind, as DOC.md numbers them.
func kindOf(word string) api.CmdKind {
	l := strings.Fields("step next finish continue back-step back-next back-finish back-continue goto break watch delete enable disable up down print")
	return api.CmdKind(slices.Index(l, word) + 1)
}

// told tells what is told as a text that is not too long to look at.
func told(x any) string { return fmt.Sprintf("%.300s", fmt.Sprintf("%+v", x)) }

func expect[T comparable](t *testing.T, what string, got, want T) {
	t.Helper()
	if got != want {
		t.Errorf("%.300s:\n got %s\nwant %s", what, told(got), told(want))
	}
}

// expectText says that a command is right, that it is printed so, and that it is parsed of that text.
func expectText(t *testing.T, text string, c api.Cmd) {
	t.Helper()
	if err := Check(c); err != api.OK {
		t.Errorf("%.300q: Check of %s: error %d", text, told(c), err)
	}
	if got, err := Print(c); got != text || err != api.OK {
		t.Errorf("%.300q: Print of %s: %.300q, error %d", text, told(c), got, err)
	}
	if got, err := Parse(text); got != c || err != api.OK {
		t.Errorf("%.300q: Parse: %s, error %d, not %s", text, told(got), err, told(c))
	}
}

// expectWrong says that a command is not right, and is not printed.
func expectWrong(t *testing.T, c api.Cmd) {
	t.Helper()
	if err := Check(c); err != api.ErrArg {
		t.Errorf("Check of %s: error %d", told(c), err)
	}
	if got, err := Print(c); got != "" || err != api.ErrArg {
		t.Errorf("Print of %s: %.300q, error %d", told(c), got, err)
	}
}

// expectNone says that a text is no command's.
func expectNone(t *testing.T, texts ...string) {
	t.Helper()
	for _, s := range texts {
		if got, err := Parse(s); got != (api.Cmd{}) || err != api.ErrSyntax {
			t.Errorf("Parse of %.300q: %s, error %d", s, told(got), err)
		}
	}
}

// expectUnwell says that Get tells no command, and how the reader is then.
func expectUnwell(t *testing.T, what string, r *wire.Reader, want api.Errno) {
	t.Helper()
	expect(t, what, Get(r), api.Cmd{})
	expect(t, what+": the reader", r.Err(), want)
	expect(t, what+": again", Get(r), api.Cmd{})
	expect(t, what+": the reader again", r.Err(), want)
}

// The model: the chapter's words by patterns, and numbers without a bound.

func isExpr(s string) bool {
	_, _, err := syntax.Expr(s)
	return err == api.OK && len(s) < 256
}

// isWithin tells whether a number stands from 0, or 1, to 2^32.
func isWithin(n, from *big.Int) bool {
	return n.Cmp(from) >= 0 && n.Cmp(new(big.Int).Lsh(big.NewInt(1), 32)) <= 0
}

var (
	plain = pattern(strings.Join(bare, "|"))
	going = pattern("goto (0|[1-9][0-9]*)")
	byId  = pattern("(delete|enable|disable) ([1-9][0-9]*)")
	stop  = pattern("break ([1-9][0-9]*)( if (.*))?")
	asked = pattern("(watch|print) (.*)")
)

func pattern(s string) *regexp.Regexp { return regexp.MustCompile(`(?s)\A(?:` + s + `)\z`) }

// modelParse tells a text's command by the patterns.
func modelParse(s string) (api.Cmd, bool) {
	var c api.Cmd
	var n, e string
	from := big.NewInt(1)
	switch {
	case plain.MatchString(s):
		return api.Cmd{Kind: kindOf(s)}, true
	case going.MatchString(s):
		c.Kind, n, from = api.CmdGoto, going.FindStringSubmatch(s)[1], big.NewInt(0)
	case byId.MatchString(s):
		l := byId.FindStringSubmatch(s)
		c.Kind, n = kindOf(l[1]), l[2]
	case stop.MatchString(s):
		l := stop.FindStringSubmatch(s)
		c.Kind, n, e = api.CmdBreak, l[1], l[3]
		if l[2] != "" && !isExpr(e) {
			return api.Cmd{}, false
		}
	case asked.MatchString(s):
		l := asked.FindStringSubmatch(s)
		c.Kind, e = kindOf(l[1]), l[2]
		if !isExpr(e) {
			return api.Cmd{}, false
		}
	default:
		return api.Cmd{}, false
	}
	if n != "" {
		x, _ := new(big.Int).SetString(n, 10)
		if !isWithin(x, from) {
			return api.Cmd{}, false
		}
		c.N = int(x.Int64())
	}
	c.S = e
	return c, true
}

// modelCheck tells whether a command is right by what its kind has.
func modelCheck(c api.Cmd) bool {
	n, none := big.NewInt(int64(c.N)), c.N == 0 && c.S == ""
	switch k := int(c.Kind); {
	case 1 <= k && k <= 8 || k == 15 || k == 16:
		return none
	case k == 9:
		return c.S == "" && isWithin(n, big.NewInt(0))
	case k == 10:
		return (c.S == "" || isExpr(c.S)) && isWithin(n, big.NewInt(1))
	case k >= 12 && k <= 14:
		return c.S == "" && isWithin(n, big.NewInt(1))
	case k == 11 || k == 17:
		return c.N == 0 && isExpr(c.S)
	}
	return false
}

// modelPrint tells the text of a command that is right.
func modelPrint(c api.Cmd) string {
	l := append(append(slices.Clone(bare), withN...), append(withS, "break")...)
	at := slices.IndexFunc(l, func(s string) bool { return kindOf(s) == c.Kind })
	switch s := l[at]; {
	case at < len(bare):
		return s
	case s == "break" && c.S != "":
		return fmt.Sprintf("break %d if %s", c.N, c.S)
	case s == "watch", s == "print":
		return s + " " + c.S
	default:
		return fmt.Sprintf("%s %d", s, c.N)
	}
}

// modelNumber tells a number's bytes, reckoned without a bound.
func modelNumber(n int) []byte {
	f := new(big.Int).Lsh(big.NewInt(int64(n)), 1)
	if f.Sign() < 0 {
		f.Not(f)
	}
	var b []byte
	for {
		q, r := new(big.Int).DivMod(f, big.NewInt(128), new(big.Int))
		if q.Sign() == 0 {
			return append(b, byte(r.Int64()))
		}
		b, f = append(b, byte(r.Int64()+128)), q
	}
}

// modelBytes tells a command's bytes.
func modelBytes(c api.Cmd) []byte {
	return slices.Concat(modelNumber(int(c.Kind)), modelNumber(c.N), modelNumber(len(c.S)), []byte(c.S))
}

// long tells an expression of so many bytes.
func long(n int) string {
	return "[a" + strings.Repeat(",b", (n-3)/2) + strings.Repeat(" ", (n-3)%2) + "]"
}

// all are right commands of each kind.
func all() []api.Cmd {
	var l []api.Cmd
	for _, s := range bare {
		l = append(l, api.Cmd{Kind: kindOf(s)})
	}
	for _, s := range withN {
		l = append(l, api.Cmd{Kind: kindOf(s), N: 1}, api.Cmd{Kind: kindOf(s), N: 300}, api.Cmd{Kind: kindOf(s), N: api.MaxSteps})
	}
	for _, s := range withS {
		l = append(l, api.Cmd{Kind: kindOf(s), S: "a"}, api.Cmd{Kind: kindOf(s), S: " a.b[0] // x"}, api.Cmd{Kind: kindOf(s), S: long(255)})
	}
	return append(l, api.Cmd{Kind: api.CmdGoto}, api.Cmd{Kind: api.CmdBreak, N: 7}, api.Cmd{Kind: api.CmdBreak, N: 12, S: "a > 1"}, api.Cmd{Kind: api.CmdBreak, N: api.MaxSteps, S: long(255)})
}

// wrongs are commands that are not right.
func wrongs() []api.Cmd {
	return []api.Cmd{{}, {Kind: 18, N: 5, S: "a"}, {Kind: -1}, {Kind: least, N: least}, {Kind: most, N: most, S: "a b"}, {Kind: api.CmdStep, N: 1}, {Kind: api.CmdGoto, N: -1}, {Kind: api.CmdBreak, S: "\xff\x00"}, {Kind: api.CmdPrint}, {Kind: api.CmdUp, S: long(255)}}
}
