package parse_test

import (
	"math/rand"
	"regexp"
	"slices"
	"strings"
	"testing"

	"boxhedge/api"
	"boxhedge/parse"
	"boxhedge/token"
	"boxhedge/tree"
)

// rules are the chapter's grammar as a table: the alternatives of a rule, each
// beginning with another token; the last one is taken where none of them begins
// with the next token. `>` makes an expression one deeper, `+` a statement.
var rules = map[string]string{
	"Program": "int NAME IntHead | bool NAME Function Functions | END",
	"IntHead": "[ NUMBER ] ; Program | Function Functions",
	// No array may follow a function.
	"Functions":  "Type NAME Function Functions | END",
	"Type":       "int | bool",
	"Function":   "( Params",
	"Params":     ") Block | Type NAME MoreParams",
	"MoreParams": ", Type NAME MoreParams | ) Block",
	"Block":      "{ Stmts",
	"Stmts":      "} | +Stmt Stmts",
	"Stmt":       "Type NAME = >Expr ; | NAME Named ; | if ( >Expr ) Block Else | while ( >Expr ) Block | break ; | continue ; | return >Expr ; | print ( >Expr ) ;",
	"Named":      "[ >Expr ] = >Expr | ( >>Args | = >Expr",
	"Else":       "else Block | ",
	"Expr":       "Tight Chain",
	"Chain":      "BINARY Expr | ",
	"Tight":      "UNARY >Tight | CONVERSION ( >Expr ) | ( >Expr ) | true | false | read ( ) | NUMBER | NAME Use",
	"Use":        "( >Args | [ >Expr ] | ",
	"Args":       ") | Expr MoreArgs",
	"MoreArgs":   ", Expr MoreArgs | )",
}

// classes are the tokens that a word of the rules in capitals stands for.
var classes = map[string][]string{
	"END": {""}, "NAME": {"x", "a", "f", "g"}, "NUMBER": {"1", "2", "3", "0"}, "UNARY": {"-", "~", "!"}, "CONVERSION": {"i8", "i16", "i32", "u8", "u16", "u32"},
	"BINARY": {"+", "-", "*", "/", "%", "&", "|", "^", "<<", ">>", ">>>", "<", "<=", ">", ">=", "==", "!=", "&&", "||"},
}

// part is a word of the rules that is to be met, with its depths.
type part struct {
	word        string
	stmts, expr int
}

// matches tells whether a token is what a word that is no rule stands for.
func matches(word, tok string) bool {
	if l, ok := classes[word]; ok {
		return slices.Contains(l, tok)
	}
	return word == tok
}

// begins tells whether an alternative may begin with a token.
func begins(alternative, tok string) bool {
	words := strings.Fields(alternative)
	if len(words) == 0 {
		return false
	}
	word := strings.TrimLeft(words[0], ">+")
	rule, ok := rules[word]
	if !ok {
		return matches(word, tok)
	}
	for _, x := range strings.Split(rule, " | ") {
		if begins(x, tok) {
			return true
		}
	}
	return false
}

// known are the results of parts.
var known = map[[2]string][]part{}

// parts are those of a rule where a token is next, the last one first, with
// depths that begin with 0.
func parts(rule, tok string) []part {
	key := [2]string{rule, tok}
	if l, ok := known[key]; ok {
		return l
	}
	alternatives := strings.Split(rules[rule], " | ")
	taken := alternatives[len(alternatives)-1]
	for _, x := range alternatives {
		if begins(x, tok) {
			taken = x
		}
	}
	var l []part
	for _, word := range strings.Fields(taken) {
		l = append(l, part{strings.TrimLeft(word, ">+"), strings.Count(word, "+"), strings.Count(word, ">")})
	}
	slices.Reverse(l)
	known[key] = l
	return l
}

// wantFault is the error of D1 among tokens, and the place of the token with it.
// A tree that is not valid is no error here.
func wantFault(l []string) (api.Errno, int) {
	open := []part{{"Program", 0, 0}}
	for i := 0; len(open) > 0; {
		tok := ""
		if i < len(l) {
			tok = l[i]
		}
		p := open[len(open)-1]
		open = open[:len(open)-1]
		if p.stmts > 100 && p.word == "Stmt" || p.expr > 100 && p.word == "Tight" {
			return api.ErrLong, i
		}
		if _, ok := rules[p.word]; ok {
			for _, q := range parts(p.word, tok) {
				open = append(open, part{q.word, p.stmts + q.stmts, p.expr + q.expr})
			}
			continue
		}
		if !matches(p.word, tok) {
			return api.ErrSyntax, i
		}
		i++
	}
	return api.OK, 0
}

// enough are the alternatives that end a random text.
var enough = map[string]string{
	"Program": "END", "IntHead": "[ NUMBER ] ; Program", "Functions": "END", "Params": ") Block", "MoreParams": ") Block", "Stmts": "}", "Stmt": "break ;", "Named": "= >Expr",
	"Else": "", "Chain": "", "Tight": "NUMBER", "Use": "", "Args": ")", "MoreArgs": ")",
}

// derive is a random text of a word of the rules, of not much more tokens than
// there are left.
func derive(r *rand.Rand, word string, left *int) []string {
	if l, ok := classes[word]; ok {
		*left--
		return strings.Fields(l[r.Intn(len(l))])
	}
	rule, ok := rules[word]
	if !ok {
		*left--
		return []string{word}
	}
	alternatives := strings.Split(rule, " | ")
	taken := alternatives[r.Intn(len(alternatives))]
	if short, ok := enough[word]; ok && *left <= 0 {
		taken = short
	}
	// Texts of some length: one that is to end soon gets a second chance.
	if taken == enough[word] && *left > 0 {
		taken = alternatives[r.Intn(len(alternatives))]
	}
	var l []string
	for _, x := range strings.Fields(taken) {
		l = append(l, derive(r, strings.TrimLeft(x, ">+"), left)...)
	}
	return l
}

// words are the tokens that a text may be spoilt with.
var words = strings.Fields("( ( ) ) { } [ ] , ; = == != < <= > >= << >> >>> + - * / % & | ^ ~ ! && || int bool if else while break continue return print read true false i8 i16 i32 u8 u16 u32 x a f g 1 2 3 0")

// spoil is l with a random change.
func spoil(r *rand.Rand, l []string) []string {
	l = slices.Clone(l)
	if len(l) < 4 {
		return append(l, words[r.Intn(len(words))])
	}
	i, word := r.Intn(len(l)-3), words[r.Intn(len(words))]
	switch r.Intn(6) {
	case 0:
		return slices.Delete(l, i, i+1)
	case 1:
		return slices.Insert(l, i, word)
	case 2:
		l[i] = word
		return l
	case 3:
		l[i], l[i+1] = l[i+1], l[i]
		return l
	case 4:
		return slices.Insert(l, i, slices.Clone(l[i:i+1+r.Intn(3)])...)
	}
	return l[:i]
}

// plain is a text without what may be written in two ways.
func plain(l []string) string {
	s := " " + strings.Join(l, " ") + " "
	s = strings.ReplaceAll(s, " else { }", "")
	return strings.Join(strings.Fields(strings.NewReplacer("(", "", ")", "").Replace(s)), " ")
}

var sizeZero = regexp.MustCompile(`\bint \w+ \[ 0 \]`)

// checkTokens holds the text of tokens, each on a line of its own, against the
// rules. It is what Parse answered.
func checkTokens(t *testing.T, l []string) api.Errno {
	t.Helper()
	s := strings.Join(append(slices.Clone(l), ""), "\n")
	fault, place := wantFault(l)
	if fault != api.OK {
		checkFault(t, s, fault, place+1)
		return fault
	}
	p, e, line := parse.Parse(s)
	small := sizeZero.MatchString(strings.Join(l, " "))
	big := strings.Count(s, ",") >= 8 || len(l) > 150
	if line != 0 || e != api.OK && e != api.ErrLong || e == api.OK && small || e == api.ErrLong && !small && !big {
		t.Errorf("D1: Parse(%s) has the error %d and the line %d", s, e, line)
	}
	if e == api.OK {
		checkPrinted(t, l, p)
	}
	return e
}

// checkPrinted: but for brackets, a program is printed with the tokens that it
// was parsed from.
func checkPrinted(t *testing.T, l []string, p api.Prog) {
	t.Helper()
	s, e := tree.Print(p)
	if e != api.OK {
		t.Fatalf("D1: the program of %q is not valid", l)
	}
	printed, e, _ := token.Tokens(s)
	var q []string
	for _, x := range printed {
		q = append(q, x.Text)
	}
	if e == api.OK && plain(q) != plain(l) {
		t.Errorf("D1: %q is parsed to %s", l, s)
	}
}

// TestD1Random: random texts of the grammar, and such texts with changes.
func TestD1Random(t *testing.T) {
	r := rand.New(rand.NewSource(2))
	counts := map[api.Errno]int{}
	for range 20000 {
		if t.Failed() {
			return
		}
		left := 10 + r.Intn(100)
		l := derive(r, "Program", &left)
		counts[checkTokens(t, l)]++
		for range r.Intn(4) {
			l = spoil(r, l)
			counts[checkTokens(t, l)]++
		}
	}
	if counts[api.OK] < 10000 || counts[api.ErrSyntax] < 10000 || counts[api.ErrLong] < 100 {
		t.Errorf("the test says little: %v", counts)
	}
}

// TestD1RandomDeep: texts about as deep as may be, and such texts with changes.
func TestD1RandomDeep(t *testing.T) {
	r := rand.New(rand.NewSource(3))
	counts := map[api.Errno]int{}
	for range 1500 {
		if t.Failed() {
			return
		}
		u := uses[r.Intn(len(uses))]
		e := nest(openers, r.Intn(15), r.Intn(15), r.Intn(4)*32+r.Intn(10), "x ")
		l := strings.Fields(inside(r.Intn(7), r.Intn(3)*48+r.Intn(8), u.begin+e+u.end))
		for range 4 {
			counts[checkTokens(t, l)]++
			l = spoil(r, l)
		}
	}
	if counts[api.OK] < 500 || counts[api.ErrSyntax] < 1000 || counts[api.ErrLong] < 500 {
		t.Errorf("the test says little: %v", counts)
	}
}

// TestD1AnyTokens: tokens in any order.
func TestD1AnyTokens(t *testing.T) {
	r := rand.New(rand.NewSource(4))
	for _, start := range []string{"", "int x [ 1 ] ;", "int x (", "int x ( ) {", "int x ( ) { x =", "int x ( ) { x ( "} {
		for _, a := range words {
			checkTokens(t, append(strings.Fields(start), a))
			for _, b := range words {
				checkTokens(t, append(strings.Fields(start), a, b))
			}
		}
		for range 3000 {
			l := strings.Fields(start)
			for range r.Intn(12) {
				l = append(l, words[r.Intn(len(words))])
			}
			checkTokens(t, l)
		}
	}
}
