package parse_test

import (
	"strings"
	"testing"

	"boxhedge/api"
	"boxhedge/parse"
)

// checkMark holds the text against a fault at the word that a `@` stands before
// (a `@` alone is the text's end): with each word on a line of its own the line
// tells the word.
func checkMark(t *testing.T, fault api.Errno, text string) {
	t.Helper()
	words := strings.Fields(text)
	mark := 0
	for i, w := range words {
		if w[0] == '@' {
			mark, words[i] = i+1, w[1:]
		}
	}
	if mark == 0 || strings.Count(text, "@") > 1 {
		t.Fatalf("not one mark in %s", short(text))
	}
	checkFault(t, strings.Join(words, "\n"), fault, mark)
}

// TestD1Tokens: what the tokens refuse is told first, whatever stands before it.
func TestD1Tokens(t *testing.T) {
	for _, s := range []string{"#", "01", "1a", "9223372036854775808", "abcdefghijklmnopqrstu", "\u00e9", "\"", "'", ".", "?", ":", "@", "$", "\\", "\x00", "\xff"} {
		checkFault(t, s, api.ErrSyntax, 1)
		checkFault(t, "int f() {\n\n"+s+"}", api.ErrSyntax, 3)
		checkFault(t, "} }\n)\n"+s, api.ErrSyntax, 3)
		checkFault(t, "int a[0];\n"+s, api.ErrSyntax, 2)
		checkFault(t, "int f() { return\n"+strings.Repeat("(", 200)+"\n"+s, api.ErrSyntax, 3)
		check(t, "int f() {} // "+s, body())
	}
	long := "int f() {}" + strings.Repeat(" ", api.MaxText)
	check(t, long[:api.MaxText], body())
	checkFault(t, long[:api.MaxText+1], api.ErrLong, 0)
	checkFault(t, "#\n"+long, api.ErrLong, 0)
	checkFault(t, "}\n"+long, api.ErrLong, 0)
	checkFault(t, "}\n"+long[:api.MaxText-2], api.ErrSyntax, 1)
}

// wrongHeads are texts that cannot go on at the mark, outside of statements.
var wrongHeads = []string{
	"@x", "@1", "@;", "@{", "@}", "@(", "@true", "@if", "@= x", "@-", "@read ( )", "@i8",
	"int @", "int @;", "int @1", "int @int x", "int @if ( )", "int @i8 ( ) { }", "int @( ) { }", "int @= 1 ;", "bool @", "bool @true",
	"int a @", "int a @;", "int a @= 1 ;", "int a @, b", "int a @{ }", "int a @] ;", "int a @a", "bool a @", "bool a @;",
	"int a [ @", "int a [ @] ;", "int a [ @x ] ;", "int a [ @- 1 ] ;", "int a [ @( 1 ) ] ;", "int a [ @true ] ;", "int a [ 1 @", "int a [ 1 @+ 1 ] ;", "int a [ 1 @;", "int a [ 1 @) ;",
	"int a [ 1 ] @", "int a [ 1 ] @int b [ 1 ] ;", "int a [ 1 ] @= 2 ;", "int a [ 1 ] @, b [ 2 ] ;", "int a [ 1 ] @[ 1 ] ;", "int a [ 1 ] ; @;", "int a [ 1 ] ; @a [ 1 ] ;", "int a [ 0 ] ; @;",
	"bool a @[ 1 ] ;", "int a [ 1 ] ; bool b @[ 1 ] ;", "int f ( ) { } int a @[ 4 ] ;", "bool f ( ) { } int g ( ) { } int a @[ 4 ] ;", "int a [ 1 ] ; bool f ( ) { } int b @[ 4 ] ;", "int f ( ) { } bool a @[ 4 ] ;",
	"int f ( @", "int f ( @, ) { }", "int f ( @x ) { }", "int f ( @x int ) { }", "int f ( @1 ) { }", "int f ( @; ) { }", "int f ( @( ) ) { }",
	"int f ( int @", "int f ( int @) { }", "int f ( int @, int y ) { }", "int f ( int @bool x ) { }", "int f ( int @1 ) { }",
	"int f ( int x @", "int f ( int x @;", "int f ( int x @int y ) { }", "int f ( int x @[ ] ) { }", "int f ( int x @= 1 ) { }", "int f ( int x @] { }", "int f ( int x @{ }",
	"int f ( int x , @", "int f ( int x , @) { }", "int f ( int x , @, int y ) { }", "int f ( int x , @y ) { }", "int f ( int x , bool @) { }", "int f ( int x , bool y @",
	"int f ( ) @", "int f ( ) @;", "int f ( ) @= 1 ;", "int f ( ) @return 1 ;", "int f ( ) @( ) { }", "int f ( ) @) { }", "int f ( ) @int g ( ) { }",
	"int f ( ) { @", "int f ( ) { } @}", "int f ( ) { } @;", "int f ( ) { } @x", "int f ( ) { } @{ }", "int f ( ) { } @else { }", "int f ( ) { } int @", "int f ( ) { } int g @", "int f ( ) { } int g ( @",
}

// wrongStmts are texts that cannot go on at the mark, where statements may stand.
var wrongStmts = []string{
	"@", "@; }", "@{ } }", "@) }", "@] }", "@1 ; }", "@- x ; }", "@( x ) ; }", "@true ; }", "@read ( ) ; }", "@i8 = 1 ; }", "@i8 ( x ) ; }", "@else { } }", "@= 1 ; }", "@+ x ; }", "@, }", "@[ 1 ] = 1 ; }",
	"x @", "x @; }", "x @+ 1 ; }", "x @1 ; }", "x @x ; }", "x @== 1 ; }", "x @) ; }", "x @} }", "x @, y = 1 ; }", "x @] = 1 ; }", "x @int y = 1 ; }", "x @{ }",
	"break @", "break @} }", "break @x ; }", "break @1 ; }", "break @( ) ; }", "break ; @; }", "continue @", "continue @} }", "continue @continue ; }", "continue @1 ; }",
	"g ( ) @", "g ( ) @} }", "g ( ) @+ 1 ; }", "g ( ) @= 1 ; }", "g ( ) @( ) ; }", "g ( ) @[ 1 ] = 2 ; }", "g ( ) @) ; }",
	"a [ 1 ] @", "a [ 1 ] @; }", "a [ 1 ] @+ 1 ; }", "a [ 1 ] @[ 1 ] = 1 ; }", "a [ 1 ] @( ) ; }", "a [ 1 ] @== 1 ; }", "a [ 1 ] @] = 1 ; }",
	"int @", "int @; }", "int @= 1 ; }", "int @1 = 1 ; }", "int @int x = 1 ; }", "int @if = 1 ; }", "int @( x ) ; }", "bool @",
	"int x @", "int x @; }", "int x @, y ; }", "int x @[ 1 ] ; }", "int x @( ) { } }", "int x @== 1 ; }", "bool x @; }",
	"if @", "if @x { } }", "if @{ } }", "if ( x ) @", "if ( x ) @x = 2 ; }", "if ( x ) @; }", "if ( x ) @break ; }", "if ( x ) @else { } }", "if ( x ) @if ( y ) { } }", "if ( x ) @( y ) { } }", "if ( x ) @) { } }",
	"if ( x ) { @", "if ( x ) { } @", "if ( x ) { } @; }", "if ( x ) { } else @", "if ( x ) { } else @x = 1 ; }", "if ( x ) { } else @if ( y ) { } }", "if ( x ) { } else @; }", "if ( x ) { } else @( x ) { } }",
	"if ( x ) { } else { @", "if ( x ) { } else { } @", "if ( x ) { } else { } @else { } }", "if ( x ) { break ; @else { } }",
	"while @", "while @x { } }", "while @{ } }", "while ( x ) @", "while ( x ) @; }", "while ( x ) @x = 1 ; }", "while ( x ) { @", "while ( x ) { } @", "while ( x ) { } @else { } }", "while ( x ) { } @; }",
	"print @", "print @x ; }", "print @; }", "print @= 1 ; }", "print @[ 1 ] = 2 ; }", "print ( x ) @", "print ( x ) @} }", "print ( x ) @+ 1 ; }", "print ( x ) @( ) ; }",
}

// wrongExprs are texts that cannot go on at the mark, where an expression stands,
// whatever is around it.
var wrongExprs = []string{
	"@", "@;", "@}", "@= 1", "@+ 1", "@* 1", "@< 1", "@&& x", "@int", "@bool", "@if ( 1 )", "@while", "@else", "@break", "@print ( 1 )", "@,", "@[ 1 ]", "@]", "@{ }", "@return",
	"1 @2", "1 @y", "1 @= 2", "1 @! 2", "1 @~ 2", "1 @( 2 )", "1 @[ 2 ]", "1 @{ }", "1 @}", "1 @true", "1 @read ( )", "1 @u8 ( 1 )", "1 @", "x @1", "x @x", "x @= 1", "x @{", "x @!", "x @int", "x @",
	"x + @;", "x + @+ 2", "x + @}", "x - @/ 2", "x && @&& 2", "x + @)", "x + @", "x < @= 2", "x @= = 2", "x & @& 2", "x >> @> 1", "x + @,", "x + @]", "x + 1 @1", "x * @* 2",
	"- @;", "- @)", "! @== 1", "~ @", "- - @+ 1", "- @int", "- @,", "! @]", "! @= 1", "- 1 @1", "~ x @! y",
	"( @)", "( @;", "( @", "( 1 @;", "( 1 @}", "( 1 @, 2 )", "( 1 @]", "( 1 @", "( 1 @2 )", "( 1 ) @1", "( y ) @( 1 )", "( y ) @[ 1 ]", "( 1 + @)", "( @int ) y", "( 1 ) @", "( ( 1 ) @;",
	"i8 @;", "i8 @1", "u32 @x", "i8 ( @)", "i8 ( 1 @, 2 )", "i8 ( 1 @;", "i8 ( 1 ) @( 1 )", "i8 @- 1", "u16 @[ 1 ]", "i8 @u8 ( 1 )", "i8 ( 1 @", "i16 @", "i32 ( @", "u8 ( @=",
	"read @;", "read ( @1 )", "read ( @x )", "read ( @;", "read ( @", "read @[ 1 ]", "read ( ) @( )", "read @", "read @1", "true @( )", "true @[ 1 ]", "1 @( )", "false @true", "true @1",
	"a [ @]", "a [ 1 @;", "a [ 1 @)", "a [ 1 @, 2 ]", "a [ 1 ] @[ 1 ]", "a [ 1 ] @( 1 )", "a [ 1 ] @1", "a [ 1 @", "a [ @= ]", "a [ @", "a [ 1 ] @",
	"g ( @, )", "g ( @;", "g ( @", "g ( 1 @;", "g ( 1 @]", "g ( 1 , @)", "g ( 1 , @, 2 )", "g ( 1 @2 )", "g ( 1 , @", "g ( 1 @", "g ( ) @( )", "g ( ) @[ 1 ]", "g ( ) @1", "g ( @int y )", "g ( 1 , 2 @;", "g ( @] )", "g ( 1 , 2 , @)", "g ( ) @",
}

// ends are the beginnings of statements with an expression, and the tokens that
// may not stand behind it.
var ends = []struct{ begin, wrong string }{
	{"return", "} ) ] ,"}, {"x =", "} ) ] ,"}, {"int x =", "} ) ] ,"}, {"a [ 1 ] =", "} ) ] ,"},
	{"print (", "; } ] ,"}, {"if (", "; } ] ,"}, {"while (", "; } ] ,"}, {"a [", "; } ) ,"},
	{"g (", "; } ]"}, {"g ( 1 ,", "; } ]"},
}

func TestD1Wrong(t *testing.T) {
	for _, s := range wrongHeads {
		checkMark(t, api.ErrSyntax, s)
	}
	starts := []string{"int f ( ) { ", "int a [ 1 ] ; bool f ( int x , int y ) { x = 1 ; while ( x ) { ", "int f ( ) { if ( x ) { } else { ", "int g ( ) { } int f ( ) { while ( x ) { break ; } "}
	for _, start := range starts {
		for _, s := range wrongStmts {
			checkMark(t, api.ErrSyntax, start+s)
		}
		for _, e := range ends {
			for _, s := range wrongExprs {
				checkMark(t, api.ErrSyntax, start+e.begin+" "+s)
			}
			for _, s := range strings.Fields(e.wrong) {
				checkMark(t, api.ErrSyntax, start+e.begin+" x @"+s)
				checkMark(t, api.ErrSyntax, start+e.begin+" g ( 1 , 2 ) - ( 3 ) @"+s)
			}
		}
	}
}

// TestD1First: of several faults the first one is told, whatever follows.
func TestD1First(t *testing.T) {
	checkFault(t, "int f() {\nx;\n}\n}", api.ErrSyntax, 2)
	checkFault(t, "int a[0];\nint f(\n,) {}", api.ErrSyntax, 3)
	checkFault(t, "int f() {\nx = 1", api.ErrSyntax, 2)
	checkFault(t, "int f() {\nx = 1\n", api.ErrSyntax, 3)
	checkFault(t, "int f() {\nx = 1\n// the end", api.ErrSyntax, 3)
	checkFault(t, "int f() {\n\n// nothing\n;}", api.ErrSyntax, 4)
	deep := strings.Repeat("(", 101)
	checkFault(t, "int f() {\nreturn "+deep+"\n1;\nx", api.ErrLong, 2)
	checkFault(t, "int f() {\nx;\nreturn "+deep, api.ErrSyntax, 2)
	checkFault(t, "int f() { x = "+strings.Repeat("1 + ", 200)+"1;\n} }", api.ErrSyntax, 2)
	checkFault(t, "int f() { x = "+strings.Repeat("1 + ", 200)+"1;\nreturn "+deep+"1", api.ErrLong, 2)
}

// TestD1NotValid: texts of the grammar whose trees are not valid.
func TestD1NotValid(t *testing.T) {
	for s, want := range map[string]api.Errno{
		"int a[0];": api.ErrLong, "int a[1];": api.OK, "int a[1000];": api.OK, "int a[1001];": api.ErrLong, "int a[9223372036854775807];": api.ErrLong,
		"int a[4];\nint b[0];\nint f() {}":                                        api.ErrLong,
		"int f(int a, int b, int c, int d, int e, int g, int h, int i) {}":        api.OK,
		"int f(int a, int b, int c, int d, int e, int g, int h, int i, int j) {}": api.ErrLong,
		"int f() { g(1, 2, 3, 4, 5, 6, 7, 8); }":                                  api.OK,
		"int f() { g(1, 2, 3, 4, 5, 6, 7, 8, 9); }":                               api.ErrLong,
		"int f() { return 1 + g(1, 2, 3, 4, 5, 6, 7, 8, 9); }":                    api.ErrLong,
		"int f() { return 1" + strings.Repeat(" - 1", 99) + "; }":                 api.OK,
		"int f() { return 1" + strings.Repeat(" - 1", 100) + "; }":                api.ErrLong,
		"int f() { g(1" + strings.Repeat(" - 1", 98) + "); }":                     api.OK,
		"int f() { g(1" + strings.Repeat(" - 1", 99) + "); }":                     api.ErrLong,
		"int f() { a[1] = -(1" + strings.Repeat(" || 1", 98) + "); }":             api.OK,
		"int f() { a[1] = -(1" + strings.Repeat(" || 1", 99) + "); }":             api.ErrLong,
		"int f() { return 1" + strings.Repeat(" * 1", 20000) + "; }":              api.ErrLong,
	} {
		if _, e, line := parse.Parse(s); e != want || line != 0 {
			t.Errorf("D1: Parse(%s) has the error %d and the line %d, want %d and 0", short(s), e, line, want)
		}
		if want != api.OK {
			checkFault(t, s, want, 0)
			checkFault(t, s+"\n}", api.ErrSyntax, 1+strings.Count(s, "\n")+1)
		}
	}
}

// opener is what makes what stands behind it one deeper, and its other end. It
// is clean if nothing else in it is as deep.
type opener struct {
	begin, end string
	clean      bool
}

// openers go around level 11s, those of layers around statements.
var openers = []opener{
	{"( ", ") ", true}, {"- ", "", true}, {"~ ", "", true}, {"! ", "", true}, {"i8 ( ", ") ", true}, {"u32 ( ", ") ", true}, {"a [ ", "] ", true}, {"g ( ", ") ", true},
	{"g ( 1 , ", ") ", false}, {"g ( x , 2 , ", ", 3 ) ", false}, {"( 1 + ", ") ", false}, {"( ", "* 2 ) ", false}, {"i16 ( x - ", "+ 1 ) ", false}, {"a [ 1 | ", "] ", false}, {"g ( x , 2 + ", ") ", false},
}

var layers = []opener{
	{"if ( x ) { ", "} ", true}, {"while ( x ) { ", "} ", true}, {"if ( x ) { } else { ", "} ", true}, {"if ( x ) { ", "} else { } ", true},
	{"if ( x ) { break ; ", "} else { x = 1 ; } ", false}, {"while ( g ( ) ) { x = 1 ; ", "continue ; } ", false}, {"if ( x ) { x = 1 ; } while ( - x ) { ", "} g ( ) ; ", false},
}

// nest is n of the openers around s: those at the places first, first + step
// and so on.
func nest(l []opener, first, step, n int, s string) string {
	text, end := "", ""
	for i := range n {
		o := l[(first+i*step)%len(l)]
		text, end = text+o.begin, o.end+end
	}
	return text + s + end
}

// inside puts s into n statements in a function.
func inside(first, n int, s string) string {
	return "int f ( ) { " + nest(layers, first, 1, n, s) + "} "
}

// uses are statements around an expression of a depth.
var uses = []struct {
	begin, end string
	depth      int
}{
	{"return ", "; ", 1}, {"print ( ", ") ; ", 1}, {"x = ", "; ", 1}, {"int x = ", "; ", 1}, {"bool x = ", "; ", 1}, {"a [ ", "] = 1 ; ", 1}, {"a [ 1 ] = ", "; ", 1}, {"if ( ", ") { } ", 1}, {"if ( ", ") { } else { } ", 1}, {"while ( ", ") { } ", 1},
	{"g ( ", ") ; ", 2}, {"g ( 1 , ", ") ; ", 2}, {"return 1 + ", "; ", 1}, {"return 1 * ", "- 2 ; ", 1}, {"g ( 1 + ", ") ; ", 2},
}

// upToMark is a text up to its mark, which then is at its end.
func upToMark(s string) string {
	before, _, _ := strings.Cut(s, "@")
	return before + "@"
}

// TestD1ExprDepths: a level 11 may be 100 deep; what is to begin a deeper one is
// refused whatever it is.
func TestD1ExprDepths(t *testing.T) {
	words := strings.Fields("x 1 true - ( i8 read ; if else } { = ] , + int *")
	for first, last := range openers[:8] {
		for i, u := range uses {
			for _, step := range []int{0, 4, 7} {
				for _, w := range words {
					s := nest(openers, first, step, 100-u.depth, last.begin+"@"+w+" 1 "+last.end)
					checkMark(t, api.ErrLong, inside(i, 15*(i%4), u.begin+s+u.end))
				}
				s := inside(i, 7, u.begin+nest(openers, first, step, 100-u.depth, last.begin+"@"))
				checkMark(t, api.ErrLong, upToMark(s))
			}
			if last.begin != "g ( " {
				checkMark(t, api.ErrLong, inside(0, i, u.begin+nest(openers, first, 0, 100-u.depth, last.begin+"@) ")))
			}
		}
	}
}

// TestD1ExprDepthsRight: 100 are not too deep, and neither are brackets without
// anything in them.
func TestD1ExprDepthsRight(t *testing.T) {
	x := variable("x")
	for first, o := range openers[:10] {
		for i, u := range uses[:12] {
			for _, n := range []int{0, 1, 2, 50, 99, 100} {
				parsed(t, inside(first, 30*(i%4), u.begin+nest(openers, first, 0, max(0, n-u.depth), "x ")+u.end))
			}
			if o.begin == "g ( " {
				parsed(t, inside(first, i, u.begin+nest(openers, first, 0, 101-u.depth, "")+u.end))
			}
			parsed(t, inside(first, i, u.begin+nest(openers, first, 0, 100-u.depth, "read ( ) ")+u.end))
		}
	}
	check(t, "int f() { return 1 +"+nest(openers, 0, 0, 99, "x")+"; }", body(stmt(api.Return, two(api.Add, num(1), x))))
	check(t, "int f() { g("+nest(openers, 0, 0, 98, "x")+", x); }", body(stmt(api.Do, call("g", x, x))))
	e := x
	for range 99 {
		e = one(api.Neg, e)
	}
	check(t, "int f() { return "+strings.Repeat("-", 99)+"x; }", body(stmt(api.Return, e)))
	// Level 11s at the limit, but a tree beyond it.
	checkFault(t, "int f() { return 1 + "+strings.Repeat("-", 99)+"x; }", api.ErrLong, 0)
	parsed(t, "int f() { return "+nest(openers, 10, 0, 99, "x")+"; }")
	checkFault(t, "int f() { return "+nest(openers, 10, 0, 99, "x + 1")+"; }", api.ErrLong, 0)
}

// TestD1StmtDepths: a statement may be 100 deep; what is to begin a deeper one
// is refused whatever it is.
func TestD1StmtDepths(t *testing.T) {
	for first, last := range layers[:4] {
		for _, n := range []int{0, 1, 2, 50, 99} {
			for _, s := range []string{"", "x = 1 ; ", "break ; break ; ", "if ( x ) { } else { } while ( x ) { } ", "if ( x ) { } "} {
				parsed(t, inside(first, n, s+last.begin+last.end+s))
			}
		}
		for _, s := range strings.Fields("x if while break continue return print int bool ; ) ] 1 - ( else { true = , read") {
			checkMark(t, api.ErrLong, inside(first, 99, last.begin+"@"+s+" = 1 ; "+last.end))
			checkMark(t, api.ErrLong, inside(first, 99, "if ( x ) { } x = 1 ; "+last.begin+"@"+s+" = 1 ; "+last.end))
		}
		checkMark(t, api.ErrLong, upToMark(inside(first, 99, last.begin+"@")))
	}
	// Depths begin anew in each statement and in each function.
	parsed(t, strings.Repeat(inside(0, 100, ""), 5))
	parsed(t, inside(0, 99, strings.Repeat("if ( "+nest(openers, 0, 0, 99, "x ")+") { } ", 5)))
	deep := "int f ( ) { " + strings.Repeat("while ( "+nest(openers, 1, 0, 99, "x ")+") { ", 99) + "x = " + nest(openers, 1, 0, 99, "x ") + "; "
	parsed(t, deep+strings.Repeat("} ", 100))
	checkMark(t, api.ErrLong, deep+"while ( x ) { @x = 1 ; } "+strings.Repeat("} ", 100))
}
