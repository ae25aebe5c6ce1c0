package rename_test

import (
	"reflect"
	"strconv"
	"strings"
	"testing"

	"boxhedge/api"
	"boxhedge/parse"
	"boxhedge/rename"
	"boxhedge/tree"
	"boxhedge/types"
)

// program is the program that s is the text of.
func program(t *testing.T, s string) api.Prog {
	t.Helper()
	p, fault, line := parse.Parse(s)
	if fault != api.OK {
		t.Fatalf("%q: Parse has %d, %d", s, fault, line)
	}
	return p
}

// text is the text of a program, which is valid.
func text(t *testing.T, p api.Prog) string {
	t.Helper()
	s, fault := tree.Print(p)
	if fault != api.OK {
		t.Fatalf("%v: Print has %d", p, fault)
	}
	return s
}

// renamed is Rename of a program that passes Check.
func renamed(t *testing.T, p api.Prog) api.Prog {
	t.Helper()
	q, fault := rename.Rename(p)
	if fault != api.OK {
		t.Fatalf("F1: %v: Rename has %d", p, fault)
	}
	return q
}

// declared is the names of the variables of a list of statements, behind those
// that are there already.
func declared(names []string, l []api.Stmt) []string {
	for _, s := range l {
		if s.Kind == api.Let {
			names = append(names, s.Name)
		}
		names = declared(declared(names, s.Then), s.Else)
	}
	return names
}

// checkTheorem holds a result of Rename against F2 and the names of F1.
func checkTheorem(t *testing.T, q api.Prog) {
	t.Helper()
	s := text(t, q)
	if fault, at := types.Check(q); fault != api.OK {
		t.Errorf("F2: %s: Check has %d %v", s, fault, at)
	}
	if again := text(t, renamed(t, q)); again != s {
		t.Errorf("F2: of\n%sRename has\n%s", s, again)
	}
	for _, f := range q.Funcs {
		var names []string
		for _, x := range f.Params {
			names = append(names, x.Name)
		}
		for n, name := range declared(names, f.Body) {
			if want := "v" + strconv.Itoa(n); name != want {
				t.Errorf("F1: %s: in %s there is %s, want %s", s, f.Name, name, want)
			}
		}
	}
}

// check holds Rename of a text's program against that of another text.
func check(t *testing.T, s, want string) {
	t.Helper()
	q := renamed(t, program(t, s))
	if got, wanted := text(t, q), text(t, program(t, want)); got != wanted {
		t.Errorf("F1: of %s\nRename has\n%swant\n%s", s, got, wanted)
	}
	checkTheorem(t, q)
}

// main is a function that each program needs.
const main = " int main() { return 1; }"

func TestF1Functions(t *testing.T) {
	for s, want := range map[string]string{
		main:                         main,
		"int a[3]; int b[1];" + main: "int a[3]; int b[1];" + main,
		"int main() { int x = 1; int y = x; return y; }":                                       "int main() { int v0 = 1; int v1 = v0; return v1; }",
		"int f(int x, bool y, int z) { return x + z; }" + main:                                 "int f(int v0, bool v1, int v2) { return v0 + v2; }" + main,
		"bool f(int h, int g, int f, int e, int d, int c, int b, bool a) { return a; }" + main: "bool f(int v0, int v1, int v2, int v3, int v4, int v5, int v6, bool v7) { return v7; }" + main,
		// each function begins at 0
		"int f(int x) { int y = x; return y; } int g(int z) { return z; } int main() { int y = 1; return y; }": "int f(int v0) { int v1 = v0; return v1; } int g(int v0) { return v0; } int main() { int v0 = 1; return v0; }",
		"int main() { return f(1, 2); } int f(int x, int y) { return f(y, x); }":                               "int main() { return f(1, 2); } int f(int v0, int v1) { return f(v1, v0); }",
		// arrays and functions keep their names, whoever else has them
		"int x[2]; int y(int x) { x[x] = y(x[x]); y(x); int y = x; return y(y) + x[y]; }" + main: "int x[2]; int y(int v0) { x[v0] = y(x[v0]); y(v0); int v1 = v0; return y(v1) + x[v1]; }" + main,
		"int v1[2]; int v0(int x, int main) { return v1[main] + v0(x, main); }" + main:           "int v1[2]; int v0(int v0, int v1) { return v1[v1] + v0(v0, v1); }" + main,
		// variables that have such names already
		"int f(int v1, int v0) { return v1 - v0; }" + main:                                                                       "int f(int v0, int v1) { return v0 - v1; }" + main,
		"int main() { int v2 = 1; int v0 = v2; int v1 = v0 - v2; return v0 / v1 / v2; }":                                         "int main() { int v0 = 1; int v1 = v0; int v2 = v1 - v0; return v1 / v2 / v0; }",
		"int f(int v0, int v1) { int v2 = v0; return v1 + v2; }" + main:                                                          "int f(int v0, int v1) { int v2 = v0; return v1 + v2; }" + main,
		"int main() { int abcdefghijklmnopqrst = 1; int _ = 2; return abcdefghijklmnopqrst; }":                                   "int main() { int v0 = 1; int v1 = 2; return v0; }",
		"int main() { int X = 1; int x = 2; int v = 3; int v00 = 4; return X + x + v + v00; }":                                   "int main() { int v0 = 1; int v1 = 2; int v2 = 3; int v3 = 4; return v0 + v1 + v2 + v3; }",
		"int f(int x) { print(2); return 0; int y = 1; print(y); while (x < y) { } }" + main:                                     "int f(int v0) { print(2); return 0; int v1 = 1; print(v1); while (v0 < v1) { } }" + main,
		"int a[9]; int f(bool x) { return 0; } int main() { int x = 1; f(a[~x] < i8(-x) && !(x == read()) || true); return x; }": "int a[9]; int f(bool v0) { return 0; } int main() { int v0 = 1; f(a[~v0] < i8(-v0) && !(v0 == read()) || true); return v0; }",
	} {
		check(t, s, want)
	}
}

// TestF1Statements: each text stands in a function with the params i and b.
func TestF1Statements(t *testing.T) {
	for s, want := range map[string]string{
		// wherever a variable may be used
		"i = i + 1; b = !b;":            "v0 = v0 + 1; v1 = !v1;",
		"a[i] = i;":                     "a[v0] = v0;",
		"if (b) { i = 1; }":             "if (v1) { v0 = 1; }",
		"while (b) { b = i < 1; }":      "while (v1) { v1 = v0 < 1; }",
		"return i;":                     "return v0;",
		"print(i);":                     "print(v0);",
		"f(f(i, b), i == 1);":           "f(f(v0, v1), v0 == 1);",
		"while (b) { break; }":          "while (v1) { break; }",
		"while (true) { continue; }":    "while (true) { continue; }",
		"if (true) { } else { b = b; }": "if (true) { } else { v1 = v1; }",
		// the order of the numbers: a statement, its Then, its Else, the next one
		"int c = 1; if (b) { int d = 2; if (b) { int e = 3; } else { int g = 4; } int h = 5; } else { int j = 6; } int k = 7;": "int v2 = 1; if (v1) { int v3 = 2; if (v1) { int v4 = 3; } else { int v5 = 4; } int v6 = 5; } else { int v7 = 6; } int v8 = 7;",
		"if (b) { } else { int c = 1; } while (b) { int d = 2; while (b) { int e = 3; } int g = 4; } int h = 5;":               "if (v1) { } else { int v2 = 1; } while (v1) { int v3 = 2; while (v1) { int v4 = 3; } int v5 = 4; } int v6 = 5;",
		// a Let's own expression does not know it
		"int c = i; if (b) { int c = c; c = c; } c = 1;": "int v2 = v0; if (v1) { int v3 = v2; v3 = v3; } v2 = 1;",
		"int i = i; i = i + 1;":                          "int v2 = v0; v2 = v2 + 1;",
		"bool i = i < 1; int b = 3; print(b); i = i;":    "bool v2 = v0 < 1; int v3 = 3; print(v3); v2 = v2;",
		// what is used ahead of a Let in its list is another one
		"if (b) { i = 1; int i = 2; i = 3; } i = 4;":                      "if (v1) { v0 = 1; int v2 = 2; v2 = 3; } v0 = 4;",
		"while (b) { print(i); bool i = b; b = i; } print(i);":            "while (v1) { print(v0); bool v2 = v1; v1 = v2; } print(v0);",
		"if (b) { while (b) { i = 1; } int i = 2; while (b) { i = 3; } }": "if (v1) { while (v1) { v0 = 1; } int v2 = 2; while (v1) { v2 = 3; } }",
		// what a list declares is gone behind it, and in the Else
		"if (b) { int i = 1; i = 2; } else { i = 3; } i = 4;":                                 "if (v1) { int v2 = 1; v2 = 2; } else { v0 = 3; } v0 = 4;",
		"if (b) { int c = 1; c = 2; } else { int c = 3; c = 4; } int c = 5; c = 6;":           "if (v1) { int v2 = 1; v2 = 2; } else { int v3 = 3; v3 = 4; } int v4 = 5; v4 = 6;",
		"if (b) { bool c = b; b = c; } while (b) { int c = 1; print(c); } bool c = b; b = c;": "if (v1) { bool v2 = v1; v1 = v2; } while (v1) { int v3 = 1; print(v3); } bool v4 = v1; v1 = v4;",
		"while (b) { int b = i; int i = b; i = b; } while (b) { i = 1; }":                     "while (v1) { int v2 = v0; int v3 = v2; v3 = v2; } while (v1) { v0 = 1; }",
		"while (i < 1) { int i = 2; if (i < 3) { int i = 4; print(i); } print(i); }":          "while (v0 < 1) { int v2 = 2; if (v2 < 3) { int v3 = 4; print(v3); } print(v2); }",
		// three of one name, inside out
		"int c = 1; if (b) { int c = c + 2; if (b) { int c = c + 3; print(c); } print(c); } print(c);": "int v2 = 1; if (v1) { int v3 = v2 + 2; if (v1) { int v4 = v3 + 3; print(v4); } print(v3); } print(v2);",
	} {
		check(t, "int a[9]; int f(int i, bool b) { "+s+" return 0; }"+main, "int a[9]; int f(int v0, bool v1) { "+want+" return 0; }"+main)
	}
}

func TestExample(t *testing.T) {
	check(t, "int f(bool b) { int x = 1; if (b) { int x = 2; print(x); } return x; }"+main, "int f(bool v0) { int v1 = 1; if (v0) { int v2 = 2; print(v2); } return v1; }"+main)
	check(t, "int main() { int x = 1; if (true) { int x = 2; print(x); } return 0; }", "int main() { int v0 = 1; if (true) { int v1 = 2; print(v1); } return 0; }")
}

// checkWrong holds Rename against its error.
func checkWrong(t *testing.T, p api.Prog, what ...any) {
	t.Helper()
	q, fault := rename.Rename(p)
	if fault != api.ErrArg || len(q.Arrays) != 0 || len(q.Funcs) != 0 {
		t.Errorf("F1: %v: Rename has %v, %d", what, q, fault)
	}
}

func TestF1Wrong(t *testing.T) {
	for _, s := range []string{
		"", "int a[1];", "int f() { return 1; }", "bool main() { return true; }", "int main(int x) { return x; }",
		"int a[1]; int a[1];" + main, "int main[1];" + main, main + main,
		"int f(int x, int x) { return 1; }" + main, main + "int f(int x, bool y, bool x) { return 1; }",
		// ErrName
		"int main() { return x; }", "int main() { x = 1; return 1; }", "int main() { int x = x; return 1; }",
		"int main() { int x = 1; bool x = true; return 1; }", "int main() { if (true) { int x = 1; } return x; }",
		"int main() { x = 1; int x = 2; return 1; }", "int f(int x) { return x; } int main() { return x; }",
		"int main() { int a = 1; return a[1]; }", "int main() { a[1] = 1; return 1; }", "int main() { return f(1); }", "int main() { v0 = 1; return 1; }",
		// ErrType
		"int main() { int x = true; return 1; }", "int main() { bool x = 1; return x; }", "int main() { if (1) { } return 1; }", "int main() { main(1); return 1; }",
		// ErrEnd, ErrLoop
		"int main() { }", "int main() { int x = 1; }", "int main() { while (true) { break; } }", "int main() { break; return 1; }", "int main() { if (true) { continue; } return 1; }",
		// only behind what is right
		"int a[1]; int f(int x) { int y = x; return y; } int g() { return 1; }" + main + " int h(int x) { int y = x; return z; }",
	} {
		checkWrong(t, program(t, s), s)
	}
}

// TestF1NotValid: programs that no text has.
func TestF1NotValid(t *testing.T) {
	good := program(t, main).Funcs[0]
	one := []api.Expr{{Kind: api.Num, N: 1}}
	end := api.Stmt{Kind: api.Return, Args: one}
	with := func(l ...api.Stmt) api.Prog {
		return api.Prog{Funcs: []api.Func{good, {Name: "f", Type: api.Int, Body: append(l, end)}}}
	}
	for what, p := range map[string]api.Prog{
		"a size":             {Arrays: []api.Array{{Name: "a"}}, Funcs: []api.Func{good}},
		"an array's name":    {Arrays: []api.Array{{Name: "if", Size: 1}}, Funcs: []api.Func{good}},
		"a function's type":  {Funcs: []api.Func{good, {Name: "f", Type: 3, Body: []api.Stmt{end}}}},
		"a parameter's name": {Funcs: []api.Func{good, {Name: "f", Type: api.Int, Params: []api.Param{{Type: api.Int}}, Body: []api.Stmt{end}}}},
		"nine parameters":    {Funcs: []api.Func{good, {Name: "f", Type: api.Int, Params: make([]api.Param, 9), Body: []api.Stmt{end}}}},
		"a let of no name":   with(api.Stmt{Kind: api.Let, Type: api.Int, Args: one}),
		"a let of a word":    with(api.Stmt{Kind: api.Let, Type: api.Int, Name: "while", Args: one}),
		"a let of a long":    with(api.Stmt{Kind: api.Let, Type: api.Int, Name: strings.Repeat("a", 21), Args: one}),
		"a let of nothing":   with(api.Stmt{Kind: api.Let, Type: api.Int, Name: "x"}),
		"a let of no type":   with(api.Stmt{Kind: api.Let, Name: "x", Args: one}),
		"no kind":            with(api.Stmt{}),
		"a kind too far":     with(api.Stmt{Kind: 11}),
		"a negative kind":    with(api.Stmt{Kind: -1}),
		"no expression":      with(api.Stmt{Kind: api.Print}),
		"an empty one":       with(api.Stmt{Kind: api.Print, Args: make([]api.Expr, 1)}),
		"a truth of 2":       with(api.Stmt{Kind: api.If, Args: []api.Expr{{Kind: api.Truth, N: 2}}}),
		"a while's else":     with(api.Stmt{Kind: api.While, Args: []api.Expr{{Kind: api.Truth}}, Else: []api.Stmt{end}}),
		"a return's then":    with(api.Stmt{Kind: api.Return, Args: one, Then: []api.Stmt{end}}),
		"deep":               with(deep(api.MaxDepth + 1)...),
		"an endless tree":    with(endless()),
	} {
		checkWrong(t, p, what)
	}
	renamed(t, with(deep(api.MaxDepth)...))
}

// deep is statements of a depth.
func deep(depth int) []api.Stmt {
	s := api.Stmt{Kind: api.Return, Args: []api.Expr{{Kind: api.Num, N: 1}}}
	for range depth - 1 {
		s = api.Stmt{Kind: api.If, Args: []api.Expr{{Kind: api.Truth, N: 1}}, Then: []api.Stmt{s}}
	}
	return []api.Stmt{s}
}

// endless is a statement that is in itself.
func endless() api.Stmt {
	s := api.Stmt{Kind: api.While, Args: []api.Expr{{Kind: api.Truth, N: 1}}, Then: make([]api.Stmt, 1)}
	s.Then[0] = s
	return s
}

// TestF1Deep: all depths that there may be, each with an x of its own.
func TestF1Deep(t *testing.T) {
	for _, opens := range []string{"if (b) { ", "while (b) { ", "if (b) { } else { "} {
		var s, want strings.Builder
		s.WriteString("int f(bool b) { int x = 1; ")
		want.WriteString("int f(bool v0) { int v1 = 1; ")
		closes, wantCloses := "return x; }", "return v1; }"
		for n := 2; n <= api.MaxDepth; n++ {
			v := "v" + strconv.Itoa(n)
			s.WriteString(opens + "int x = x; ")
			want.WriteString(strings.Replace(opens, "b", "v0", 1) + "int " + v + " = v" + strconv.Itoa(n-1) + "; ")
			closes, wantCloses = "x = 1; } "+closes, v+" = 1; } "+wantCloses
		}
		check(t, s.String()+closes+main, want.String()+wantCloses+main)
	}
	minus := strings.Repeat("-", api.MaxDepth-1)
	check(t, "int main() { int x = 1; return "+minus+"x; }", "int main() { int v0 = 1; return "+minus+"v0; }")
}

// TestF1Large: programs of about as many bytes as there may be.
func TestF1Large(t *testing.T) {
	var s, want strings.Builder
	s.WriteString("int main() { int x = 1; ")
	want.WriteString("int main() { int v0 = 1; ")
	for n := 1; s.Len() < 60000; n++ {
		v := strconv.Itoa(n)
		s.WriteString("int x" + v + " = x; if (x < 1) { int x = x" + v + "; x" + v + " = x; } ")
		want.WriteString("int v" + strconv.Itoa(2*n-1) + " = v0; if (v0 < 1) { int v" + strconv.Itoa(2*n) + " = v" + strconv.Itoa(2*n-1) + "; v" + strconv.Itoa(2*n-1) + " = v" + strconv.Itoa(2*n) + "; } ")
	}
	check(t, s.String()+"return x; }", want.String()+"return v0; }")
	const one = "bool f%(int x) { int y = x; return y == x; } "
	const other = "bool f%(int v0) { int v1 = v0; return v1 == v0; } "
	s.Reset()
	want.Reset()
	for n := 0; s.Len() < 90000; n++ {
		s.WriteString(strings.Replace(one, "%", strconv.Itoa(n), 1))
		want.WriteString(strings.Replace(other, "%", strconv.Itoa(n), 1))
	}
	check(t, s.String()+main, want.String()+main)
}

// TestR2Fields: what no promise names is as it was.
func TestR2Fields(t *testing.T) {
	p := program(t, "int a[2]; bool f(int x) { int y = x; if (x == y) { y = 1; } else { a[x] = y; } while (x < y) { break; } f(x); print(y); return true; }"+main)
	want := program(t, "int a[2]; bool f(int v0) { int v1 = v0; if (v0 == v1) { v1 = 1; } else { a[v0] = v1; } while (v0 < v1) { break; } f(v0); print(v1); return true; }"+main)
	if q := renamed(t, p); !reflect.DeepEqual(q, want) {
		t.Errorf("F1: Rename has\n%v\nwant\n%v", q, want)
	}
}
