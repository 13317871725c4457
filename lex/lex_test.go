package lex

import (
	"math"
	"math/big"
	"math/rand/v2"
	"regexp"
	"slices"
	"strconv"
	"strings"
	"testing"
	"unsafe"

	"hindcast/api"
)

// theWords and theSigns are those of the chapter, told apart from those of the program.
const (
	theWords = "fn record let if else while return new true false"
	theSigns = "( ) { } [ ] , : ; . = == != < <= > >= + - * / % ! && ||"
)

func expect[T comparable](t *testing.T, what string, got, want T) {
	t.Helper()
	if got != want {
		t.Errorf("%.60q: %v, not %v", what, got, want)
	}
}

// expectTokens holds all of a text's tokens, also where they are, against others.
func expectTokens(t *testing.T, s string, want ...api.Tok) {
	t.Helper()
	got, at, err := Scan(s)
	if !slices.Equal(got, want) || at != 0 || err != api.OK {
		t.Errorf("%.60q: %v, %d, %d, not %v, 0, OK", s, got, at, err, want)
	}
}

func expectRefused(t *testing.T, s string, at int, err api.Errno) {
	t.Helper()
	if got, where, e := Scan(s); len(got) != 0 || where != at || e != err {
		t.Errorf("%.60q: %v, %d, %d, not nothing, %d, %d", s, got, where, e, at, err)
	}
}

func mustScan(t *testing.T, s string) []api.Tok {
	t.Helper()
	got, _, err := Scan(s)
	if err != api.OK {
		t.Fatalf("%.60q: %d", s, err)
	}
	return got
}

func mustText(t *testing.T, tok api.Tok) string {
	t.Helper()
	s, err := Text(tok)
	if err != api.OK {
		t.Fatalf("%v: %d", tok, err)
	}
	return s
}

func name(s string, line, at int) api.Tok { return api.Tok{Kind: api.TName, S: s, Line: line, At: at} }
func word(s string, line, at int) api.Tok { return api.Tok{Kind: api.TWord, S: s, Line: line, At: at} }
func sign(s string, line, at int) api.Tok { return api.Tok{Kind: api.TSign, S: s, Line: line, At: at} }
func text(s string, line, at int) api.Tok { return api.Tok{Kind: api.TStr, S: s, Line: line, At: at} }
func number(n, line, at int) api.Tok      { return api.Tok{Kind: api.TInt, N: n, Line: line, At: at} }
func end(line, at int) api.Tok            { return api.Tok{Kind: api.TEnd, Line: line, At: at} }

// placeless tells tokens as if it were not known where they are.
func placeless(l []api.Tok) []api.Tok {
	l = slices.Clone(l)
	for i := range l {
		l[i].Line, l[i].At = 0, 0
	}
	return l
}

// The chapter's tokens once more, by patterns.
var (
	gapForm  = regexp.MustCompile(`^(?:[ \t\n]|//[^\n]*)*`)
	nameForm = regexp.MustCompile(`^[A-Za-z_][A-Za-z0-9_]*`)
	intForm  = regexp.MustCompile(`^[0-9]+`)
	bodyForm = regexp.MustCompile(`^"(?:[ !#-\[\]-~]|\\[\\"n])*`)
	signForm = regexp.MustCompile(`^(?:==|!=|<=|>=|&&|\|\||[(){}\[\],:;.=<>+*/%!-])`)
)

// formOf tells by the patterns the token with which a text begins, and the bytes that it has.
func formOf(s string) (api.Tok, string, api.Errno) {
	if x := nameForm.FindString(s); x != "" {
		switch {
		case slices.Contains(strings.Fields(theWords), x):
			return word(x, 0, 0), x, api.OK
		case len(x) > 20:
			return api.Tok{}, "", api.ErrBig
		}
		return name(x, 0, 0), x, api.OK
	}
	if x := intForm.FindString(s); x != "" {
		n, _ := new(big.Int).SetString(x, 10)
		if !n.IsInt64() {
			return api.Tok{}, "", api.ErrBig
		}
		return number(int(n.Int64()), 0, 0), x, api.OK
	}
	if x := bodyForm.FindString(s); x != "" {
		meant := strings.NewReplacer(`\\`, `\`, `\"`, `"`, `\n`, "\n").Replace(x[1:])
		switch {
		case len(meant) > 255:
			return api.Tok{}, "", api.ErrBig
		case !strings.HasPrefix(s[len(x):], `"`):
			return api.Tok{}, "", api.ErrSyntax
		}
		return text(meant, 0, 0), x + `"`, api.OK
	}
	if x := signForm.FindString(s); x != "" {
		return sign(x, 0, 0), x, api.OK
	}
	return api.Tok{}, "", api.ErrSyntax
}

// expectByForms holds what Scan tells of a text against the patterns.
func expectByForms(t *testing.T, s string) {
	t.Helper()
	if len(s) > 4096 {
		expectRefused(t, s, 0, api.ErrBig)
		return
	}
	var want []api.Tok
	at := len(gapForm.FindString(s))
	for at < len(s) {
		tok, own, err := formOf(s[at:])
		if err != api.OK {
			expectRefused(t, s, at, err)
			return
		}
		tok.Line, tok.At = 1+strings.Count(s[:at], "\n"), at
		want = append(want, tok)
		at += len(own)
		at += len(gapForm.FindString(s[at:]))
	}
	expectTokens(t, s, append(want, end(1+strings.Count(s, "\n"), len(s)))...)
}

// P3.1: the examples of the chapter.
func TestExamples(t *testing.T) {
	expectTokens(t, "let x1=a[0]; // x", word("let", 1, 0), name("x1", 1, 4), sign("=", 1, 6), name("a", 1, 7),
		sign("[", 1, 8), number(0, 1, 9), sign("]", 1, 10), sign(";", 1, 11), end(1, 17))
	expectTokens(t, `"a\"b"`, text(`a"b`, 1, 0), end(1, 6))
	expectTokens(t, "a<=b", name("a", 1, 0), sign("<=", 1, 1), name("b", 1, 3), end(1, 4))
	expectRefused(t, "9223372036854775808", 0, api.ErrBig)
	expectRefused(t, "a&b", 1, api.ErrSyntax)
}

// P3.1: nothing but what parts tokens.
func TestNoTokens(t *testing.T) {
	expectTokens(t, "", end(1, 0))
	expectTokens(t, " \t ", end(1, 3))
	expectTokens(t, "\n", end(2, 1))
	expectTokens(t, " \n\n\t", end(3, 4))
	expectTokens(t, "//", end(1, 2))
	expectTokens(t, "//\n", end(2, 3))
}

// P3.1: MaxSource bytes, and one more, which is told ahead of all that is wrong in them.
func TestMostBytes(t *testing.T) {
	blanks := strings.Repeat(" ", 4095)
	expectTokens(t, blanks+"a", name("a", 1, 4095), end(1, 4096))
	expectTokens(t, "a"+blanks, name("a", 1, 0), end(1, 4096))
	expectTokens(t, strings.Repeat("\n", 4096), end(4097, 4096))
	expect(t, "signs", len(mustScan(t, strings.Repeat(";", 4096))), 4097)
	expectRefused(t, blanks+"#", 4095, api.ErrSyntax)
	for _, s := range []string{blanks + "a ", blanks + "aa", blanks + "//", "#" + blanks + " ", "\"" + blanks + "\"", strings.Repeat("a", 1<<20)} {
		expectRefused(t, s, 0, api.ErrBig)
	}
}

// P3.1: words, and names that have one in them.
func TestWordsAndNames(t *testing.T) {
	for _, w := range strings.Fields(theWords) {
		n := len(w)
		expectTokens(t, w, word(w, 1, 0), end(1, n))
		expectTokens(t, w+" "+w+"("+w, word(w, 1, 0), word(w, 1, n+1), sign("(", 1, 2*n+1), word(w, 1, 2*n+2), end(1, 3*n+2))
		for _, x := range []string{w + w, w + "_", "_" + w, w + "1", strings.ToUpper(w), strings.ToUpper(w[:1]) + w[1:], w[:len(w)-1]} {
			expectTokens(t, x, name(x, 1, 0), end(1, len(x)))
		}
	}
	for _, x := range []string{"a", "z", "A", "Z", "_", "__", "a0", "_9", "int", "main", "bool", "str", "AzZ_a09"} {
		expectTokens(t, x, name(x, 1, 0), end(1, len(x)))
	}
	expectTokens(t, "1a", number(1, 1, 0), name("a", 1, 1), end(1, 2))
	expectTokens(t, "1let", number(1, 1, 0), word("let", 1, 1), end(1, 4))
}

// P3.1: a name of MaxName bytes, and of one more; the whole row counts, not the word with which it begins.
func TestLongNames(t *testing.T) {
	for _, x := range []string{strings.Repeat("a", 20), strings.Repeat("_", 20), "A" + strings.Repeat("9", 19), "return" + strings.Repeat("x", 14)} {
		expectTokens(t, "\n "+x+";", name(x, 2, 2), sign(";", 2, 22), end(2, 23))
		for _, more := range []string{"a", "Z", "_", "0", "a0a"} {
			expectRefused(t, x+more, 0, api.ErrBig)
			expectRefused(t, "x; "+x+more+" #", 3, api.ErrBig)
		}
	}
	expectRefused(t, strings.Repeat("a", 4096), 0, api.ErrBig)
	expectRefused(t, strings.Repeat("let", 7), 0, api.ErrBig)
}

// P3.1: numbers, the greatest one, and noughts ahead.
func TestNumbers(t *testing.T) {
	for _, c := range []struct {
		s string
		n int
	}{
		{"0", 0},
		{"1", 1},
		{"10", 10},
		{"1234567890", 1234567890},
		{"007", 7},
		{"08", 8},
		{"00", 0},
		{"2147483648", 1 << 31},
		{"4294967296", 1 << 32},
		{"9223372036854775806", math.MaxInt - 1},
		{"9223372036854775807", math.MaxInt},
		{"0009223372036854775807", math.MaxInt},
		{strings.Repeat("0", 4077) + "9223372036854775807", math.MaxInt},
		{strings.Repeat("0", 4096), 0},
	} {
		expectTokens(t, c.s, number(c.n, 1, 0), end(1, len(c.s)))
	}
	expectTokens(t, "-1", sign("-", 1, 0), number(1, 1, 1), end(1, 2))
	expectTokens(t, "1.2", number(1, 1, 0), sign(".", 1, 1), number(2, 1, 2), end(1, 3))
	expectTokens(t, "0x1_0", number(0, 1, 0), name("x1_0", 1, 1), end(1, 5))
	expectTokens(t, "1_000", number(1, 1, 0), name("_000", 1, 1), end(1, 5))
}

// P3.1: numbers that are too great, also such that would be small ones if they wrapped round.
func TestGreatNumbers(t *testing.T) {
	for _, s := range []string{
		"9223372036854775808", "9223372036854775810", "9999999999999999999", "10000000000000000000",
		"18446744073709551615", "18446744073709551616", "18446744073709551623", "36893488147419103239",
		"00009223372036854775808", strings.Repeat("9", 4000),
	} {
		expectRefused(t, s, 0, api.ErrBig)
		expectRefused(t, "\n-"+s+"a #", 2, api.ErrBig)
	}
}

// P3.1: texts, and what stands for what in them.
func TestTexts(t *testing.T) {
	for _, c := range []struct{ s, meant string }{
		{`""`, ""},
		{`" "`, " "},
		{`"ab"`, "ab"},
		{`"\\"`, `\`},
		{`"\""`, `"`},
		{`"\n"`, "\n"},
		{`"\\n"`, `\n`},
		{`"\\\n"`, "\\\n"},
		{`"\\\""`, `\"`},
		{`"\n\n\"\\"`, "\n\n\"\\"},
		{`"//"`, "//"},
		{`"a // b"`, "a // b"},
		{`"let 1 #&|'"`, "let 1 #&|'"},
		{`" !~"`, " !~"},
	} {
		expectTokens(t, c.s, text(c.meant, 1, 0), end(1, len(c.s)))
		n := len(c.s)
		expectTokens(t, c.s+c.s+"a", text(c.meant, 1, 0), text(c.meant, 1, n), name("a", 1, 2*n), end(1, 2*n+1))
	}
}

// P3.1: a text that stands for MaxText bytes, and for one more; what it stands for counts, not how it is written.
func TestLongTexts(t *testing.T) {
	for _, c := range []struct{ s, meant string }{{"a", "a"}, {`\n`, "\n"}, {`\\`, `\`}, {`\"`, `"`}} {
		s, meant := strings.Repeat(c.s, 255), strings.Repeat(c.meant, 255)
		expectTokens(t, `"`+s+`"`, text(meant, 1, 0), end(1, len(s)+2))
		expectRefused(t, `"`+s+c.s+`"`, 0, api.ErrBig)
		expectRefused(t, "\n\""+s+"a\"", 1, api.ErrBig)
	}
}

// P3.1: of what is wrong in a text, what comes first is told.
func TestWrongTexts(t *testing.T) {
	full := strings.Repeat("a", 255)
	for _, c := range []struct {
		s   string
		err api.Errno
	}{
		{`"`, api.ErrSyntax},
		{`"a`, api.ErrSyntax},
		{`"a;`, api.ErrSyntax},
		{`"\`, api.ErrSyntax},
		{`"a\`, api.ErrSyntax},
		{`"\"`, api.ErrSyntax},
		{`"a\\\"`, api.ErrSyntax},
		{"\"a\nb\"", api.ErrSyntax},
		{"\"\t\"", api.ErrSyntax},
		{"\"\r\n\"", api.ErrSyntax},
		{"\"\\\n\"", api.ErrSyntax},
		{"\"é\"", api.ErrSyntax},
		{`"\t"`, api.ErrSyntax},
		{`"\N"`, api.ErrSyntax},
		{`"\0"`, api.ErrSyntax},
		{`"\ "`, api.ErrSyntax},
		{`"\'"`, api.ErrSyntax},
		{`"` + full, api.ErrSyntax},
		{`"` + full + `\`, api.ErrSyntax},
		{`"` + full + `\t"`, api.ErrSyntax},
		{`"` + full + "\x1f\"", api.ErrSyntax},
		{`"` + full + "\x7f\"", api.ErrSyntax},
		{`"` + full + "\nb\"", api.ErrSyntax},
		{`"` + full[1:] + "\x7f" + full + `"`, api.ErrSyntax},
		{`"` + full + `a`, api.ErrBig},
		{`"` + full + "a\n", api.ErrBig},
		{`"` + full + `a\t"`, api.ErrBig},
		{`"` + full + `\n`, api.ErrBig},
		{`"` + full + "a\x7f\"", api.ErrBig},
		{`"` + full + `a\`, api.ErrBig},
	} {
		expectRefused(t, c.s, 0, c.err)
		expectRefused(t, "let\n\"\" "+c.s, 7, c.err)
	}
}

// P3.1: each byte in a text, and each behind a \ there.
func TestBytesInTexts(t *testing.T) {
	for i := range 256 {
		c := string([]byte{byte(i)})
		s := `"x` + c + `y"`
		switch {
		case c == `"`:
			expectRefused(t, s, 4, api.ErrSyntax) // the second " begins another text
		case i < 32 || i > 126 || c == `\`:
			expectRefused(t, s, 0, api.ErrSyntax)
		default:
			expectTokens(t, s, text("x"+c+"y", 1, 0), end(1, 5))
		}
		s = `"x\` + c + `y"`
		switch c {
		case `"`, `\`:
			expectTokens(t, s, text("x"+c+"y", 1, 0), end(1, 6))
		case "n":
			expectTokens(t, s, text("x\ny", 1, 0), end(1, 6))
		default:
			expectRefused(t, s, 0, api.ErrSyntax)
		}
	}
}

// P3.1: each byte outside of a text.
func TestBytesOutside(t *testing.T) {
	letters := "ABCDEFGHIJKLMNOPQRSTUVWXYZ_abcdefghijklmnopqrstuvwxyz"
	for i := range 256 {
		c := string([]byte{byte(i)})
		s := "a " + c + " b"
		a, b := name("a", 1, 0), name("b", 1, 4)
		switch {
		case c == " " || c == "\t":
			expectTokens(t, s, a, b, end(1, 5))
		case c == "\n":
			expectTokens(t, s, a, name("b", 2, 4), end(2, 5))
		case strings.Contains(letters, c):
			expectTokens(t, s, a, name(c, 1, 2), b, end(1, 5))
		case '0' <= i && i <= '9':
			expectTokens(t, s, a, number(i-'0', 1, 2), b, end(1, 5))
		case slices.Contains(strings.Fields(theSigns), c):
			expectTokens(t, s, a, sign(c, 1, 2), b, end(1, 5))
		default:
			expectRefused(t, s, 2, api.ErrSyntax)
			expectRefused(t, "// "+s+"\n"+s, 11, api.ErrSyntax)
		}
	}
}

// P3.1: of signs of which one is the beginning of another the longest.
func TestSigns(t *testing.T) {
	all := strings.Fields(theSigns)
	expect(t, "signs", len(all), 25)
	for _, x := range all {
		expectTokens(t, x, sign(x, 1, 0), end(1, len(x)))
		expectTokens(t, "a"+x+"1", name("a", 1, 0), sign(x, 1, 1), number(1, 1, 1+len(x)), end(1, 2+len(x)))
		for _, y := range all {
			expectByForms(t, x+y)
			for _, z := range all {
				expectByForms(t, x+y+z)
			}
		}
	}
	expectTokens(t, "===", sign("==", 1, 0), sign("=", 1, 2), end(1, 3))
	expectTokens(t, "!==", sign("!=", 1, 0), sign("=", 1, 2), end(1, 3))
	expectTokens(t, "=!=", sign("=", 1, 0), sign("!=", 1, 1), end(1, 3))
	expectTokens(t, "<==", sign("<=", 1, 0), sign("=", 1, 2), end(1, 3))
	expectTokens(t, ">==", sign(">=", 1, 0), sign("=", 1, 2), end(1, 3))
	expectTokens(t, "= =", sign("=", 1, 0), sign("=", 1, 2), end(1, 3))
	expectTokens(t, "=<>", sign("=", 1, 0), sign("<", 1, 1), sign(">", 1, 2), end(1, 3))
	expectTokens(t, "&&||", sign("&&", 1, 0), sign("||", 1, 2), end(1, 4))
	expectTokens(t, "/ /", sign("/", 1, 0), sign("/", 1, 2), end(1, 3))
	expectTokens(t, "*/", sign("*", 1, 0), sign("/", 1, 1), end(1, 2))
}

// P3.1: a single & and a single |, and other bytes that begin nothing.
func TestNoSigns(t *testing.T) {
	for _, x := range []string{"&", "|"} {
		expectRefused(t, x, 0, api.ErrSyntax)
		expectRefused(t, x+" "+x, 0, api.ErrSyntax)
		expectRefused(t, x+"=", 0, api.ErrSyntax)
		expectRefused(t, x+x+x, 2, api.ErrSyntax)
		expectRefused(t, "a "+x, 2, api.ErrSyntax)
	}
	expectRefused(t, "&|", 0, api.ErrSyntax)
	expectRefused(t, "|&", 0, api.ErrSyntax)
	expectRefused(t, "a\r\n", 1, api.ErrSyntax)
	expectRefused(t, "é", 0, api.ErrSyntax)
	expectRefused(t, "aé", 1, api.ErrSyntax)
	expectRefused(t, "1'", 1, api.ErrSyntax)
	expectRefused(t, "a\\", 1, api.ErrSyntax)
	expectRefused(t, "\v", 0, api.ErrSyntax)
	expectRefused(t, "\x00", 0, api.ErrSyntax)
	expectRefused(t, "\u00a0", 0, api.ErrSyntax)
}

// P3.1: of several things that are wrong the first one is told.
func TestFirstWrong(t *testing.T) {
	wrong := []struct {
		s   string
		err api.Errno
	}{
		{"#", api.ErrSyntax},
		{"& ", api.ErrSyntax},
		{"9223372036854775808", api.ErrBig},
		{strings.Repeat("a", 21), api.ErrBig},
		{"\"\\x\"", api.ErrSyntax},
		{"\"" + strings.Repeat("a", 256) + "\"", api.ErrBig},
	}
	for _, first := range wrong {
		for _, second := range wrong {
			expectRefused(t, first.s+" "+second.s, 0, first.err)
			expectRefused(t, "// "+second.s+"\n a + "+first.s+" "+second.s, len(second.s)+9, first.err)
		}
	}
}

// P3.1: remarks, with all that they may hold, with and without a line end.
func TestRemarks(t *testing.T) {
	expectTokens(t, "a//b", name("a", 1, 0), end(1, 4))
	expectTokens(t, "a//b\nc", name("a", 1, 0), name("c", 2, 5), end(2, 6))
	expectTokens(t, "a // b // c\n// d\n\n  // e\nf", name("a", 1, 0), name("f", 5, 25), end(5, 26))
	expectTokens(t, "a///b", name("a", 1, 0), end(1, 5))
	expectTokens(t, "a// \"\n\"b\"", name("a", 1, 0), text("b", 2, 6), end(2, 9))
	expectTokens(t, "a /b", name("a", 1, 0), sign("/", 1, 2), name("b", 1, 3), end(1, 4))
	expectTokens(t, "//a\n//b", end(2, 7))
	for i := range 256 {
		s := "a //" + string([]byte{byte(i)}) + "b\nc"
		if i == '\n' {
			expectTokens(t, s, name("a", 1, 0), name("b", 2, 5), name("c", 3, 7), end(3, 8))
			continue
		}
		expectTokens(t, s, name("a", 1, 0), name("c", 2, 7), end(2, 8))
		expectTokens(t, s[:6], name("a", 1, 0), end(1, 6))
	}
}

// P3.1: each two bytes, alone and between others, as the patterns have them.
func TestEachTwoBytes(t *testing.T) {
	for x := range 1 << 16 {
		two := string([]byte{byte(x), byte(x >> 8)})
		expectByForms(t, two)
		expectByForms(t, "\"a"+two+"\"")
		expectByForms(t, "a\n"+two+"1")
	}
}

// someSource tells a text of pieces that are right, and here and there of one that need not be.
func someSource(r *rand.Rand, wrong bool) string {
	pieces := append(strings.Fields(theWords+" "+theSigns),
		"a", "x1", "_", "let1", "Int", "aVeryLongName_of_0020", "0", "7", "007", "9223372036854775807", `""`, `"ab"`, `"\"\\\n"`, `"// no"`,
		" ", "  ", "\t", "\n", "\n\n", " \t\n ", "// r\n", "//\n", "// \"é\x00\n", " ", " ", "\n")
	if wrong {
		pieces = append(pieces, "&", "|", "#", "\"", "\\", "\r", "\x00", "\xc3\xa9", "// ", "9223372036854775808", "aVeryLongName_of_00021",
			strings.Repeat("b", 15), strings.Repeat("5", 15), strings.Repeat("c", 250), `\n`, `\"`)
	}
	var b strings.Builder
	for range r.IntN(60) {
		b.WriteString(pieces[r.IntN(len(pieces))])
	}
	return b.String()
}

// P3.1: many texts, right and wrong ones, as the patterns have them.
func TestManySources(t *testing.T) {
	r := rand.New(rand.NewPCG(3, 1))
	refused := 0
	for range 20000 {
		s := someSource(r, true)
		expectByForms(t, s)
		if _, _, err := Scan(s); err != api.OK {
			refused++
		}
	}
	for range 20000 {
		b := make([]byte, r.IntN(40))
		for i := range b {
			b[i] = byte(r.IntN(256))
			if r.IntN(2) == 0 {
				b[i] = "\"\\\"\\n/ \n&|=!<a0"[r.IntN(15)]
			}
		}
		expectByForms(t, string(b))
	}
	if refused < 2000 || refused > 18000 {
		t.Errorf("%d of 20000 texts are refused", refused)
	}
}

// P3.2: Text.
func TestText(t *testing.T) {
	expect(t, "the end", mustText(t, end(0, 0)), "")
	for _, x := range strings.Fields(theWords) {
		expect(t, x, mustText(t, word(x, 0, 0)), x)
	}
	for _, x := range strings.Fields(theSigns) {
		expect(t, x, mustText(t, sign(x, 0, 0)), x)
	}
	for _, x := range []string{"a", "_", "Z9", "int", "lets", "Let", strings.Repeat("a", 20)} {
		expect(t, x, mustText(t, name(x, 0, 0)), x)
	}
	for n, s := range map[int]string{0: "0", 7: "7", 10: "10", 1 << 31: "2147483648", math.MaxInt: "9223372036854775807"} {
		expect(t, s, mustText(t, number(n, 0, 0)), s)
	}
	for _, c := range []struct{ meant, s string }{
		{"", `""`},
		{"a b", `"a b"`},
		{" ~", `" ~"`},
		{"\"", `"\""`},
		{"\\", `"\\"`},
		{"\n", `"\n"`},
		{`\n`, `"\\n"`},
		{"a\"\\\n", `"a\"\\\n"`},
		{"// let", `"// let"`},
		{strings.Repeat("\n", 255), `"` + strings.Repeat(`\n`, 255) + `"`},
		{strings.Repeat("x", 255), `"` + strings.Repeat(`x`, 255) + `"`},
	} {
		expect(t, c.meant, mustText(t, text(c.meant, 0, 0)), c.s)
	}
}

// P3.2: where a token is has no say, whatever stands there.
func TestTextOfAnyPlace(t *testing.T) {
	for _, n := range []int{0, 1, -1, 5000, math.MaxInt, math.MinInt} {
		expect(t, "the end", mustText(t, end(n, -n)), "")
		expect(t, "a name", mustText(t, name("a", n, -n)), "a")
		expect(t, "a number", mustText(t, number(7, n, -n)), "7")
		expect(t, "a text", mustText(t, text("a", n, -n)), `"a"`)
		expect(t, "a sign", mustText(t, sign("==", n, -n)), "==")
		expect(t, "a word", mustText(t, word("fn", n, -n)), "fn")
	}
}

func expectNoToken(t *testing.T, tok api.Tok) {
	t.Helper()
	if s, err := Text(tok); s != "" || err != api.ErrArg {
		t.Errorf("%.60q: %.60q, %d, not nothing, ErrArg", tok.S, s, err)
	}
}

// P3.2: tokens that there are not.
func TestTextOfNoToken(t *testing.T) {
	long := strings.Repeat("a", 21)
	for _, s := range []string{"", " ", "1", "1a", "a b", " a", "a ", "a-", "a\n", "a//", "é", "aé", "\"a\"", "let", "false", "=", long, strings.Repeat("a", 1<<20)} {
		expectNoToken(t, name(s, 0, 0))
	}
	for _, s := range []string{"", " ", "a", "Let", "lets", " let", "let ", "let//", "int", "1", "=", "\"let\"", long} {
		expectNoToken(t, word(s, 0, 0))
	}
	for _, s := range []string{"", " ", "&", "|", "===", "= =", "= ", " =", "//", "/ ", "/*", "=>", "a", "1", "\"\"", "#", "\n", "let", "()", "=//"} {
		expectNoToken(t, sign(s, 0, 0))
	}
	for _, n := range []int{-1, -7, math.MinInt} {
		expectNoToken(t, number(n, 0, 0))
	}
	for i := range 256 {
		tok := text("a"+string([]byte{byte(i)})+"b", 0, 0)
		if i != '\n' && (i < 32 || i > 126) {
			expectNoToken(t, tok)
			continue
		}
		mustText(t, tok)
	}
	expectNoToken(t, text(strings.Repeat("a", 256), 0, 0))
	expectNoToken(t, text(strings.Repeat("\n", 256), 0, 0))
	expectNoToken(t, text(strings.Repeat("\\", 1<<20), 0, 0))
	for _, kind := range []api.TokKind{-1, 6, 7, math.MaxInt, math.MinInt} {
		expectNoToken(t, api.Tok{Kind: kind})
		expectNoToken(t, api.Tok{Kind: kind, S: "a"})
		expectNoToken(t, api.Tok{Kind: kind, N: 1})
	}
}

// P3.2: a token of which something is not zero that its kind does not have is none.
func TestTextOfMoreThanAToken(t *testing.T) {
	for _, n := range []int{1, -1, math.MaxInt} {
		expectNoToken(t, api.Tok{Kind: api.TEnd, N: n})
		expectNoToken(t, api.Tok{Kind: api.TName, S: "a", N: n})
		expectNoToken(t, api.Tok{Kind: api.TStr, S: "a", N: n})
		expectNoToken(t, api.Tok{Kind: api.TSign, S: "=", N: n})
		expectNoToken(t, api.Tok{Kind: api.TWord, S: "fn", N: n})
	}
	for _, s := range []string{" ", "1", "a", "//"} {
		expectNoToken(t, api.Tok{Kind: api.TInt, S: s, N: 1})
		expectNoToken(t, api.Tok{Kind: api.TEnd, S: s})
	}
}

// P3.2: Word.
func TestWord(t *testing.T) {
	for _, w := range strings.Fields(theWords) {
		expect(t, w, Word(w), true)
		for _, no := range []string{" " + w, w + " ", w + w, w[:len(w)-1], w[1:], strings.ToUpper(w), w + "\x00", w + "1"} {
			expect(t, no, Word(no), false)
		}
	}
	for _, no := range []string{"", " ", "a", "int", "bool", "str", "for", "main", "=", "1", "\"let\"", theWords} {
		expect(t, no, Word(no), false)
	}
}

// own tells the bytes of a source that a token has, by how it begins there.
func own(s string, tok api.Tok) string {
	switch tok.Kind {
	case api.TEnd:
		return ""
	case api.TInt:
		return intForm.FindString(s[tok.At:])
	case api.TStr:
		return bodyForm.FindString(s[tok.At:]) + `"`
	}
	return tok.S
}

// P3.3: a token's bytes begin where it says, and between tokens nothing stands but what parts them. P3.4: its line.
func TestPartsAndLines(t *testing.T) {
	r := rand.New(rand.NewPCG(3, 3))
	read := 0
	for range 5000 {
		s := someSource(r, false)
		l, _, err := Scan(s)
		if err != api.OK {
			continue // two pieces beside each other were one token that is wrong
		}
		read++
		behind := 0
		for _, tok := range l {
			if tok.At < behind || gapForm.FindString(s[behind:tok.At]) != s[behind:tok.At] {
				t.Fatalf("%q: something else ahead of %v", s, tok)
			}
			bytes := own(s, tok)
			if !strings.HasPrefix(s[tok.At:], bytes) {
				t.Fatalf("%q: %v is not there", s, tok)
			}
			if back := mustScan(t, bytes+" "); tok.Kind != api.TEnd && back[0] != (api.Tok{Kind: tok.Kind, S: tok.S, N: tok.N, Line: 1}) {
				t.Fatalf("%q: %v is %v", s, tok, back[0])
			}
			expect(t, s, tok.Line, 1+strings.Count(s[:tok.At], "\n"))
			behind = tok.At + len(bytes)
		}
		last := l[len(l)-1]
		expect(t, s, last, end(1+strings.Count(s, "\n"), len(s)))
		expect(t, s, slices.IndexFunc(l, func(tok api.Tok) bool { return tok.Kind == api.TEnd }), len(l)-1)
	}
	if read < 2500 {
		t.Errorf("only %d of 5000 texts are read", read)
	}
}

// P3.4: line ends alone begin a line; a \n of a text does not, and one behind a remark does.
func TestLines(t *testing.T) {
	expectTokens(t, "a\nb\n\nc", name("a", 1, 0), name("b", 2, 2), name("c", 4, 5), end(4, 6))
	expectTokens(t, "\"\\n\\n\" a", text("\n\n", 1, 0), name("a", 1, 7), end(1, 8))
	expectTokens(t, "// x\na // y\n// z\nb", name("a", 2, 5), name("b", 4, 17), end(4, 18))
	expectTokens(t, "a\n", name("a", 1, 0), end(2, 2))
	expectTokens(t, "a // x\n", name("a", 1, 0), end(2, 7))
}

// someToken tells a token of any kind but the end.
func someToken(r *rand.Rand) api.Tok {
	letters := "abcxyzABCXYZ_0123456789"
	switch r.IntN(5) {
	case 0:
		all := strings.Fields(theWords)
		return word(all[r.IntN(len(all))], 0, 0)
	case 1:
		all := strings.Fields(theSigns)
		return sign(all[r.IntN(len(all))], 0, 0)
	case 2:
		return number(int(r.Uint64()>>(1+r.IntN(63))), 0, 0)
	case 3:
		b := []byte{letters[r.IntN(13)]}
		for range r.IntN(20) {
			b = append(b, letters[r.IntN(len(letters))])
		}
		return name(string(b), 0, 0)
	}
	b := make([]byte, r.IntN(20))
	for i := range b {
		b[i] = byte(32 + r.IntN(95))
		if r.IntN(4) == 0 {
			b[i] = "\n\\\"n/"[r.IntN(5)]
		}
	}
	return text(string(b), 0, 0)
}

// P3.5: tokens that are written with a blank between are read as they were.
func TestThereAndBack(t *testing.T) {
	r := rand.New(rand.NewPCG(3, 5))
	for range 5000 {
		var l []api.Tok
		var texts []string
		for range r.IntN(40) {
			l = append(l, someToken(r))
			texts = append(texts, mustText(t, l[len(l)-1]))
		}
		s := strings.Join(texts, " ")
		if got := placeless(mustScan(t, s)); !slices.Equal(got, append(l, end(0, 0))) {
			t.Fatalf("%q: %v, not %v", s, got, l)
		}
	}
}

// P3.5: what was read of any text is written, and read as the same.
func TestReadWrittenRead(t *testing.T) {
	r := rand.New(rand.NewPCG(3, 55))
	for range 5000 {
		l, _, err := Scan(someSource(r, true))
		if err != api.OK {
			continue
		}
		var texts []string
		for _, tok := range l {
			texts = append(texts, mustText(t, tok))
		}
		s := strings.Join(texts, " ")
		if got := placeless(mustScan(t, s)); !slices.Equal(got, placeless(l)) {
			t.Fatalf("%q: %v, not %v", s, got, l)
		}
	}
}

// P3.6: more of what parts tokens, where there is some, and a remark at the end change no token but for where it is.
func TestMoreBlanks(t *testing.T) {
	r := rand.New(rand.NewPCG(3, 6))
	parts := []string{" ", "\t", "\n", "  ", " \n\t", " // remark\n", "//\n", " // \"a\xff\n\n"}
	ends := []string{"//", " // x", "// \"", "\n// é\x00", "///", " // a\n"}
	for range 5000 {
		var plain, wide strings.Builder
		for range r.IntN(30) {
			s := mustText(t, someToken(r))
			plain.WriteString(s + " ")
			wide.WriteString(s + " ")
			for range r.IntN(3) {
				wide.WriteString(parts[r.IntN(len(parts))])
			}
		}
		want := placeless(mustScan(t, plain.String()))
		s := wide.String() + ends[r.IntN(len(ends))]
		if got := placeless(mustScan(t, s)); !slices.Equal(got, want) {
			t.Fatalf("%q: %v, not %v", s, got, want)
		}
	}
}

// within tells whether a text lies in the memory of another.
func within(x, s string) bool {
	p, from := uintptr(unsafe.Pointer(unsafe.StringData(x))), uintptr(unsafe.Pointer(unsafe.StringData(s)))
	return x != "" && s != "" && from <= p && p < from+uintptr(len(s))
}

// The rules: an answer is new memory.
func TestNewMemory(t *testing.T) {
	s := "let abc" + strconv.Itoa(5) + " = \"text\" == name2;"
	first, second := mustScan(t, s), mustScan(t, s)
	for i, tok := range first {
		if within(tok.S, s) || within(tok.S, second[i].S) {
			t.Errorf("%v is shared", tok)
		}
		if within(mustText(t, tok), tok.S) {
			t.Errorf("the text of %v is shared", tok)
		}
	}
	clear(first[:cap(first)])
	if !slices.Equal(second, mustScan(t, s)) {
		t.Error("tokens are shared")
	}
}
