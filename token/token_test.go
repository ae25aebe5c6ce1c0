package token_test

import (
	"math/big"
	"math/rand"
	"regexp"
	"slices"
	"strconv"
	"strings"
	"testing"

	"boxhedge/api"
	"boxhedge/token"
)

var (
	keywords = strings.Fields("int bool if else while break continue return print read true false i8 i16 i32 u8 u16 u32")
	symbols  = strings.Fields("( ) { } [ ] , ; = == != < <= > >= << >> >>> + - * / % & | ^ ~ ! && ||")
)

// The reference's patterns, all of which hold at the beginning of a text; the
// one of symbols has them in an order of its own, and takes the longest.
var (
	gapPattern    = regexp.MustCompile(`^(?:[ \t\r\n]|//[^\n]*)+`)
	spanPattern   = regexp.MustCompile(`^[A-Za-z_0-9]+`)
	namePattern   = regexp.MustCompile(`^[A-Za-z_][A-Za-z_0-9]{0,19}$`)
	numberPattern = regexp.MustCompile(`^(?:0|[1-9][0-9]*)$`)
	symbolPattern = symbolsPattern()
)

func symbolsPattern() *regexp.Regexp {
	var l []string
	for _, s := range symbols {
		l = append(l, regexp.QuoteMeta(s))
	}
	r := regexp.MustCompile(`^(?:` + strings.Join(l, "|") + `)`)
	r.Longest()
	return r
}

// wantKind is the kind of a sequence of letters and digits, or -1.
func wantKind(s string) int {
	n, whole := new(big.Int).SetString(s, 10)
	switch {
	case slices.Contains(keywords, s):
		return api.Sign
	case namePattern.MatchString(s):
		return api.Name
	case numberPattern.MatchString(s) && whole && n.BitLen() < 64:
		return api.Number
	}
	return -1
}

// wantTokens is B2 by the patterns.
func wantTokens(s string) ([]api.Token, api.Errno, int) {
	if len(s) > 100000 {
		return nil, api.ErrLong, 0
	}
	var l []api.Token
	for at := 0; ; {
		at += len(gapPattern.FindString(s[at:]))
		line := 1 + strings.Count(s[:at], "\n")
		if at == len(s) {
			return append(l, api.Token{Kind: api.End, Line: line}), api.OK, 0
		}
		kind, text := api.Sign, symbolPattern.FindString(s[at:])
		if run := spanPattern.FindString(s[at:]); run != "" {
			kind, text = wantKind(run), run
		}
		if text == "" || kind < 0 {
			return nil, api.ErrSyntax, line
		}
		l = append(l, api.Token{Kind: kind, Text: text, Line: line})
		at += len(text)
	}
}

// short is s, cut where it would fill the screen.
func short(s string) string {
	if len(s) > 200 {
		return strconv.Quote(s[:200]) + "..."
	}
	return strconv.Quote(s)
}

// check holds Tokens(s) against a list, an error and a line.
func check(t *testing.T, s string, want []api.Token, fault api.Errno, line int) {
	t.Helper()
	l, e, n := token.Tokens(s)
	if e != fault || n != line {
		t.Errorf("B2: Tokens(%s) has the error %d and the line %d, want %d and %d", short(s), e, n, fault, line)
	}
	if len(l) != len(want) {
		t.Errorf("B2: Tokens(%s) has %d tokens, want %d", short(s), len(l), len(want))
		return
	}
	for i := range l {
		if l[i] != want[i] {
			t.Errorf("B2: Tokens(%s) has %v as token %d, want %v", short(s), l[i], i, want[i])
			return
		}
	}
}

// checkFault holds Tokens(s) against ErrSyntax with a line.
func checkFault(t *testing.T, s string, line int) {
	t.Helper()
	check(t, s, nil, api.ErrSyntax, line)
}

func TestB1Word(t *testing.T) {
	for _, s := range keywords {
		if !token.Word(s) {
			t.Errorf("B1: %q is a keyword", s)
		}
		upper := strings.ToUpper(s)
		for _, x := range []string{s + " ", " " + s, s + "\n", s + "x", "x" + s, s[1:], s[:len(s)-1], upper, upper[:1] + s[1:], s + s, s + "\x00"} {
			if token.Word(x) {
				t.Errorf("B1: %q is no keyword", x)
			}
		}
	}
	others := append([]string{"", " ", "i64", "u64", "i", "u", "i1", "u3", "for", "main", "var", "void", "goto", "int bool", "i8i16", "\u00e9", "\xff", "tr\u00fce", "wh\u0130le", strings.Repeat("if", 60000)}, symbols...)
	for _, s := range others {
		if token.Word(s) {
			t.Errorf("B1: %s is no keyword", short(s))
		}
	}
}

func TestB1Name(t *testing.T) {
	good := []string{
		"a", "z", "A", "Z", "_", "x1", "_1", "__", "a0", "z9", "aZ_09", "main", "i64", "u64", "u", "i", "i8x", "xi8", "i8_", "_if", "iff", "If", "IF", "Int", "True", "u88", "u320",
		strings.Repeat("a", 19), strings.Repeat("a", 20), strings.Repeat("_", 20), "a" + strings.Repeat("9", 19), "abcdefghijklmnopqrst", "UVWXYZ_0123456789ABC",
	}
	for _, s := range good {
		if !token.Name(s) {
			t.Errorf("B1: %q is a name", s)
		}
	}
	bad := []string{
		"", " ", "1", "0", "9a", "1a", "0x", "12345678901234567890", " a", "a ", "a b", "a\n", "\na", "a\t", "a\r", "a\x00", "\x00", "a-b", "a.b", "a'", "$a", "a$", "@", "[", "`", "{", "/", ":", "a:", "a/", "a@", "a[", "a`", "a{", "//a", "a//",
		"\u00e9", "a\u00e9", "\u00e9a", "\u0141", "\u017f", "\u212a", "\uff41", "\u0430", "a\u0301", "a\u0661", "\u0661", "a\uff11", "\xff", "a\xff", "\xe1", "a\u2028", "a\u00a0", "\ufeffa", "a\ufffd",
		strings.Repeat("a", 21), strings.Repeat("_", 21), "a" + strings.Repeat("9", 20), strings.Repeat("\u00e9", 10), strings.Repeat("a", 100001),
	}
	bad = append(append(bad, keywords...), symbols...)
	for _, s := range bad {
		if token.Name(s) {
			t.Errorf("B1: %s is no name", short(s))
		}
	}
}

// TestB1EveryByte holds each byte, alone and behind a letter, against the document's letters and digits.
func TestB1EveryByte(t *testing.T) {
	for b := range 256 {
		alone := b >= 'A' && b <= 'Z' || b >= 'a' && b <= 'z' || b == '_'
		behind := alone || b >= '0' && b <= '9'
		one := string([]byte{byte(b)})
		if got := token.Name(one); got != alone {
			t.Errorf("B1: Name of the byte %d: %v", b, got)
		}
		if got := token.Name("q" + one); got != behind {
			t.Errorf("B1: Name of q and the byte %d: %v", b, got)
		}
	}
}

func TestB2Ordinary(t *testing.T) {
	check(t, "int main() {\n\treturn 2*x1; // twice\n}\n", []api.Token{
		{Kind: api.Sign, Text: "int", Line: 1}, {Kind: api.Name, Text: "main", Line: 1}, {Kind: api.Sign, Text: "(", Line: 1}, {Kind: api.Sign, Text: ")", Line: 1}, {Kind: api.Sign, Text: "{", Line: 1},
		{Kind: api.Sign, Text: "return", Line: 2}, {Kind: api.Number, Text: "2", Line: 2}, {Kind: api.Sign, Text: "*", Line: 2}, {Kind: api.Name, Text: "x1", Line: 2}, {Kind: api.Sign, Text: ";", Line: 2},
		{Kind: api.Sign, Text: "}", Line: 3}, {Kind: api.End, Line: 4},
	}, api.OK, 0)
	check(t, "", []api.Token{{Kind: api.End, Line: 1}}, api.OK, 0)
	check(t, "a", []api.Token{{Kind: api.Name, Text: "a", Line: 1}, {Kind: api.End, Line: 1}}, api.OK, 0)
}

// TestB2Words: keywords are signs, and only whole sequences are.
func TestB2Words(t *testing.T) {
	for _, s := range keywords {
		check(t, s, []api.Token{{Kind: api.Sign, Text: s, Line: 1}, {Kind: api.End, Line: 1}}, api.OK, 0)
		for _, x := range []string{s + "x", s + "_", s + "0", "x" + s, "_" + s, strings.ToUpper(s)} {
			check(t, x, []api.Token{{Kind: api.Name, Text: x, Line: 1}, {Kind: api.End, Line: 1}}, api.OK, 0)
		}
		checkFault(t, "1"+s, 1)
	}
}

func TestB2Names(t *testing.T) {
	for _, s := range []string{"_", "a", "Z9", strings.Repeat("a", 20), strings.Repeat("_", 20), "a" + strings.Repeat("0", 19)} {
		check(t, "\n"+s+";", []api.Token{{Kind: api.Name, Text: s, Line: 2}, {Kind: api.Sign, Text: ";", Line: 2}, {Kind: api.End, Line: 2}}, api.OK, 0)
	}
	for _, s := range []string{strings.Repeat("a", 21), "a" + strings.Repeat("0", 20), strings.Repeat("_", 50000), strings.Repeat("int", 7)} {
		checkFault(t, "\n"+s+";\n", 2)
	}
}

func TestB2Numbers(t *testing.T) {
	for _, s := range []string{"0", "1", "9", "10", "100", "1000000000000000000", "4294967296", "9223372036854775806", "9223372036854775807"} {
		check(t, s+"\n", []api.Token{{Kind: api.Number, Text: s, Line: 1}, {Kind: api.End, Line: 2}}, api.OK, 0)
	}
	bad := []string{
		"9223372036854775808", "9223372036854775810", "9999999999999999999", "10000000000000000000", "18446744073709551615", "18446744073709551616", "18446744073709551617", "36893488147419103233",
		"00", "01", "007", "09223372036854775807", "0000000000000000000001", "1a", "0x1", "0a", "1_000", "0_", "1_", "1e5", "0b1", "0o7", "2int", "8i8", strings.Repeat("1", 21), strings.Repeat("9", 99999), "0" + strings.Repeat("0", 50000),
	}
	for _, s := range bad {
		checkFault(t, s, 1)
		checkFault(t, "x = \n "+s[:min(len(s), 90000)]+"\n;", 2)
	}
	check(t, "-5+6", []api.Token{{Kind: api.Sign, Text: "-", Line: 1}, {Kind: api.Number, Text: "5", Line: 1}, {Kind: api.Sign, Text: "+", Line: 1}, {Kind: api.Number, Text: "6", Line: 1}, {Kind: api.End, Line: 1}}, api.OK, 0)
	checkFault(t, "-9223372036854775808", 1)
	checkFault(t, "1.5", 1)
}

// longest is the signs that symbols written without blanks amount to.
func longest(s string) []api.Token {
	var l []api.Token
	for s != "" {
		best := ""
		for _, x := range symbols {
			if strings.HasPrefix(s, x) && len(x) > len(best) {
				best = x
			}
		}
		if best == "" {
			return nil
		}
		l = append(l, api.Token{Kind: api.Sign, Text: best, Line: 1})
		s = s[len(best):]
	}
	return append(l, api.Token{Kind: api.End, Line: 1})
}

// TestB2Symbols: all symbols, and all pairs and triples of them without blanks between.
func TestB2Symbols(t *testing.T) {
	for _, a := range symbols {
		check(t, a, []api.Token{{Kind: api.Sign, Text: a, Line: 1}, {Kind: api.End, Line: 1}}, api.OK, 0)
		for _, b := range symbols {
			for _, c := range append([]string{""}, symbols...) {
				if s := a + b + c; !strings.Contains(s, "//") {
					check(t, s, longest(s), api.OK, 0)
				}
			}
		}
	}
}

func TestB2LongestSymbol(t *testing.T) {
	for s, want := range map[string]string{
		">>>>": ">>> >", ">>>>>>>>": ">>> >>> >>", ">>=": ">> =", ">>>=": ">>> =", ">=>": ">= >", "<<<": "<< <", "<<=": "<< =", "<=<": "<= <", "===": "== =", "====": "== ==", "!==": "!= =", "!!=": "! !=", "=!=": "= !=", "=<=": "= <=", "&&&": "&& &", "|||": "|| |", "&|&": "& | &", "--": "- -", "++": "+ +", "+=": "+ =", "<>": "< >", "!~-": "! ~ -", "a<-1": "a < - 1", "a<<b": "a << b", "/*": "/ *", "*/": "* /", "():": "",
	} {
		l, e, _ := token.Tokens(s)
		var texts []string
		for _, x := range l {
			if x.Kind != api.End {
				texts = append(texts, x.Text)
			}
		}
		if got := strings.Join(texts, " "); got != want || (e == api.OK) != (want != "") {
			t.Errorf("B2: Tokens(%q) has %q, %d, want %q", s, got, e, want)
		}
	}
}

func TestB2Comments(t *testing.T) {
	a, b := api.Token{Kind: api.Name, Text: "a", Line: 1}, api.Token{Kind: api.Name, Text: "b", Line: 2}
	end := func(line int) api.Token { return api.Token{Kind: api.End, Line: line} }
	check(t, "//", []api.Token{end(1)}, api.OK, 0)
	check(t, "//\n", []api.Token{end(2)}, api.OK, 0)
	check(t, "// x", []api.Token{end(1)}, api.OK, 0)
	check(t, "a//b", []api.Token{a, end(1)}, api.OK, 0)
	check(t, "a//b\nb", []api.Token{a, b, end(2)}, api.OK, 0)
	check(t, "a//\nb//", []api.Token{a, b, end(2)}, api.OK, 0)
	check(t, "a// // // b\n//b\n//\n", []api.Token{a, end(4)}, api.OK, 0)
	check(t, "a///b", []api.Token{a, end(1)}, api.OK, 0)
	check(t, "a//# $ \u00e9 \xff \x00 01 1a \"\nb", []api.Token{a, b, end(2)}, api.OK, 0)
	check(t, "a//b\rb\nb", []api.Token{a, b, end(2)}, api.OK, 0)
	check(t, "a//b\x0b\x0c\u2028\u0085b\nb", []api.Token{a, b, end(2)}, api.OK, 0)
	check(t, "a /* b", []api.Token{a, {Kind: api.Sign, Text: "/", Line: 1}, {Kind: api.Sign, Text: "*", Line: 1}, {Kind: api.Name, Text: "b", Line: 1}, end(1)}, api.OK, 0)
	check(t, "a / / \nb", []api.Token{a, {Kind: api.Sign, Text: "/", Line: 1}, {Kind: api.Sign, Text: "/", Line: 1}, b, end(2)}, api.OK, 0)
	check(t, "a/\n/b", []api.Token{a, {Kind: api.Sign, Text: "/", Line: 1}, {Kind: api.Sign, Text: "/", Line: 2}, b, end(2)}, api.OK, 0)
	check(t, "a</b", []api.Token{a, {Kind: api.Sign, Text: "<", Line: 1}, {Kind: api.Sign, Text: "/", Line: 1}, {Kind: api.Name, Text: "b", Line: 1}, end(1)}, api.OK, 0)
	checkFault(t, "//\n#", 2)
	checkFault(t, "//\n//\n //\n\t#//", 4)
}

// TestB2EveryByte: of all bytes just four are blanks, and only the byte 10 begins a line.
func TestB2EveryByte(t *testing.T) {
	for b := range 256 {
		s := "a" + string([]byte{byte(b)}) + "a"
		l, e, n := wantTokens(s)
		check(t, s, l, e, n)
		line := 1
		if b == '\n' {
			line = 2
		}
		if blank := b == ' ' || b == '\t' || b == '\r' || b == '\n'; blank {
			check(t, s, []api.Token{{Kind: api.Name, Text: "a", Line: 1}, {Kind: api.Name, Text: "a", Line: line}, {Kind: api.End, Line: line}}, api.OK, 0)
		}
		if b < ' ' && b != '\t' && b != '\r' && b != '\n' || b >= 127 || strings.ContainsRune("\"#$'.:?@\\`", rune(b)) {
			checkFault(t, s, 1)
			checkFault(t, s[1:2], 1)
		}
	}
}

func TestB2Lines(t *testing.T) {
	a := func(line int) api.Token { return api.Token{Kind: api.Name, Text: "a", Line: line} }
	end := func(line int) api.Token { return api.Token{Kind: api.End, Line: line} }
	check(t, "\n", []api.Token{end(2)}, api.OK, 0)
	check(t, " \t\r\n\n a", []api.Token{a(3), end(3)}, api.OK, 0)
	check(t, "a\r\na\ra\n\n\na\n", []api.Token{a(1), a(2), a(2), a(5), end(6)}, api.OK, 0)
	check(t, strings.Repeat("\n", 100000), []api.Token{end(100001)}, api.OK, 0)
	check(t, strings.Repeat("\n", 99999)+"a", []api.Token{a(100000), end(100000)}, api.OK, 0)
	checkFault(t, strings.Repeat("\n", 99999)+"#", 100000)
	checkFault(t, "a\n#\n$\n", 2)
	checkFault(t, "#\n", 1)
	checkFault(t, "a\n\n1a\n", 3)
}

func TestB2BeyondASCII(t *testing.T) {
	for _, s := range []string{"\u00e9", "\u0141", "\u017f", "\u212a", "\uff41", "\u0430", "\u0661", "\uff11", "\u00a0", "\u2003", "\u2028", "\u0085", "\ufeff", "\u0301", "\ufffd", "\U0001f600", "\U00010041", "\xff", "\x80", "\xc3", "\xe1\x88", "\xf0\x9f"} {
		checkFault(t, s, 1)
		checkFault(t, "a\n"+s, 2)
		checkFault(t, "a\n\nb"+s+"c", 3)
		checkFault(t, "1"+s, 1)
		checkFault(t, "="+s+"=", 1)
		check(t, "a//"+s, []api.Token{{Kind: api.Name, Text: "a", Line: 1}, {Kind: api.End, Line: 1}}, api.OK, 0)
		check(t, "//"+s+"\na", []api.Token{{Kind: api.Name, Text: "a", Line: 2}, {Kind: api.End, Line: 2}}, api.OK, 0)
	}
}

func TestB2Limit(t *testing.T) {
	for _, unit := range []string{"a b ", ";", " ", "\n", "//", "/ / ", ">", "a//\n", "1+", "\r\n"} {
		s := strings.Repeat(unit, 100001/len(unit)+1)
		for _, size := range []int{99999, 100000, 100001, 100002} {
			l, e, n := wantTokens(s[:size])
			if (e == api.ErrLong) != (size > 100000) {
				t.Fatalf("the reference is wrong for %d bytes", size)
			}
			check(t, s[:size], l, e, n)
		}
	}
	for _, s := range []string{"#" + strings.Repeat(" ", 100000), strings.Repeat("\n", 100000) + "#", strings.Repeat("a", 100001), strings.Repeat("1", 200000), strings.Repeat("\xff", 100001), strings.Repeat("\u00e9", 50001)} {
		check(t, s, nil, api.ErrLong, 0)
	}
	checkFault(t, strings.Repeat("\u00e9", 50000), 1)
	checkFault(t, strings.Repeat("a", 100000), 1)
}

// pieces are what random texts are made of; most are tokens.
func pieces() []string {
	l := []string{"a", "b1", "_", "x9", "i8x", "0", "1", "42", "9223372036854775807", " ", "\t", "\r", "\n", "//", "// c\n", "//\n"}
	return append(append(l, keywords...), symbols...)
}

// randomText is up to 40 pieces; now and then something wrong is among them.
func randomText(r *rand.Rand) string {
	good := pieces()
	wrong := []string{"#", "01", "1a", "9223372036854775808", "\u00e9", "\xff", "\x00", strings.Repeat("a", 21), "."}
	var b strings.Builder
	for range r.Intn(40) {
		if r.Intn(60) == 0 {
			b.WriteString(wrong[r.Intn(len(wrong))])
			continue
		}
		b.WriteString(good[r.Intn(len(good))])
		if r.Intn(2) == 0 {
			b.WriteByte(' ')
		}
	}
	return b.String()
}

func TestB2Random(t *testing.T) {
	r := rand.New(rand.NewSource(1))
	valid := 0
	for range 20000 {
		s := randomText(r)
		l, e, n := wantTokens(s)
		if e == api.OK {
			valid++
		}
		check(t, s, l, e, n)
	}
	if valid < 2000 || valid > 18000 {
		t.Errorf("%d of 20000 random texts are valid: the test is one-sided", valid)
	}
}

// TestB2RandomBytes: texts of bytes that are mostly no tokens.
func TestB2RandomBytes(t *testing.T) {
	r := rand.New(rand.NewSource(2))
	for range 20000 {
		b := make([]byte, r.Intn(12))
		for i := range b {
			b[i] = byte(r.Intn(256))
		}
		l, e, n := wantTokens(string(b))
		check(t, string(b), l, e, n)
	}
}

// TestB2Again: a call hangs on no earlier one, and what it answered stays as it was.
func TestB2Again(t *testing.T) {
	s := "int a = 1;\nb = a"
	first, _, _ := token.Tokens(s)
	kept := slices.Clone(first)
	token.Tokens("x#")
	second, e, n := token.Tokens(s)
	if e != api.OK || n != 0 || !slices.Equal(second, kept) || !slices.Equal(first, kept) {
		t.Errorf("R4: %v, then %v, %d, %d", kept, second, e, n)
	}
	second[0].Text = "gone"
	if first[0] != kept[0] {
		t.Error("R4: two answers share their tokens")
	}
}

// same tells whether two lists are the same but for their lines.
func same(a, b []api.Token) bool {
	return slices.EqualFunc(a, b, func(x, y api.Token) bool { return x.Kind == y.Kind && x.Text == y.Text })
}

func texts(l []api.Token) []string {
	var out []string
	for _, x := range l[:len(l)-1] {
		out = append(out, x.Text)
	}
	return out
}

func TestB3Spaces(t *testing.T) {
	r := rand.New(rand.NewSource(3))
	for range 5000 {
		s := randomText(r)
		l, e, _ := token.Tokens(s)
		if e != api.OK {
			continue
		}
		again, e, n := token.Tokens(strings.Join(texts(l), " "))
		if e != api.OK || n != 0 || !same(l, again) {
			t.Errorf("B3: %q has %v; its texts with spaces have %v, %d, %d", s, l, again, e, n)
		}
	}
}

func TestB3Gaps(t *testing.T) {
	r := rand.New(rand.NewSource(4))
	gaps := []string{" ", "\t", "\r", "\n", "\r\n", " \n\n\t", "//\n", "// a = 1; # \xff \u00e9\n", "//a\n//b\n", " // x \n\n "}
	for range 5000 {
		l, e, _ := token.Tokens(randomText(r))
		if e != api.OK {
			continue
		}
		var b strings.Builder
		b.WriteString(gaps[r.Intn(len(gaps))])
		var lines []int
		for _, x := range texts(l) {
			lines = append(lines, 1+strings.Count(b.String(), "\n"))
			b.WriteString(x)
			if x == "/" {
				b.WriteByte(' ') // before a comment it would begin one itself
			}
			b.WriteString(gaps[r.Intn(len(gaps))])
		}
		lines = append(lines, 1+strings.Count(b.String(), "\n"))
		b.WriteString("// to the end")
		wider, e, n := token.Tokens(b.String())
		if e != api.OK || n != 0 || !same(l, wider) {
			t.Fatalf("B3: %q has %v, %d, %d, want %v", b.String(), wider, e, n, l)
		}
		for i, x := range wider {
			if x.Line != lines[i] {
				t.Fatalf("B3: %q has %v on the line %d, want %d", b.String(), x, x.Line, lines[i])
			}
		}
	}
}

// TestB3Limit: a text as long as may be, and what its texts amount to.
func TestB3Limit(t *testing.T) {
	s := strings.Repeat("if\n", 33333) + ";"
	l, e, _ := token.Tokens(s)
	if e != api.OK || len(l) != 33335 {
		t.Fatalf("B3: %d tokens, %d", len(l), e)
	}
	again, e, _ := token.Tokens(strings.Join(texts(l), " "))
	if e != api.OK || !same(l, again) {
		t.Errorf("B3: %d tokens, %d", len(again), e)
	}
}

func TestExample(t *testing.T) {
	check(t, "x=1;// a", []api.Token{{Kind: api.Name, Text: "x", Line: 1}, {Kind: api.Sign, Text: "=", Line: 1}, {Kind: api.Number, Text: "1", Line: 1}, {Kind: api.Sign, Text: ";", Line: 1}, {Kind: api.End, Line: 1}}, api.OK, 0)
}
