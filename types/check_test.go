package types_test

import (
	"strings"
	"testing"

	"boxhedge/api"
	"boxhedge/tree"
	"boxhedge/types"
)

// verdict is what Check answers.
type verdict struct {
	fault api.Errno
	at    [2]int
}

func check(t *testing.T, p api.Prog, want verdict, what ...any) {
	t.Helper()
	if fault, at := types.Check(p); (verdict{fault, at}) != want {
		t.Errorf("E4: %v: Check has %d %v, want %v", what, fault, at, want)
	}
}

// checkText holds Check of the program that s is the text of against a verdict.
func checkText(t *testing.T, s string, want verdict) {
	t.Helper()
	check(t, program(t, s), want, s)
}

// mistake is an error at a place.
func mistake(fault api.Errno, function, statement int) verdict {
	return verdict{fault, [2]int{function, statement}}
}

const good = "int main() { return 1; }"

func TestE4Good(t *testing.T) {
	for _, s := range []string{
		good, heads, "int a[1000]; " + good, good + " int f(int a, int b, int c, int d, int e, int f, int g, int h) { return f(1, 2, 3, 4, 5, 6, 7, 8); }",
		"int f(int n) { if (n < 2) { return n; } return f(n - 1) + g(n - 2); } int g(int n) { return f(n); } int main() { print(f(read())); return 0; }",
		"int a[5]; int main() { int i = 0; while (i < 5) { a[i] = read(); if (a[i] == 0) { break; } i = i + 1; continue; } return i; }",
		"bool b(int x) { return x == 1; } int main() { b(1); main(); return i8(read()); }",
		"int main() { while (true) { } }", "int main() { return main(); print(1); }",
	} {
		checkText(t, s, verdict{})
	}
}

func TestE4NotValid(t *testing.T) {
	deep := []api.Stmt{stmt(api.Return, num(1))}
	for range api.MaxDepth {
		deep = []api.Stmt{{Kind: api.If, Args: []api.Expr{truth(1)}, Then: deep}}
	}
	main := program(t, good).Funcs[0]
	with := func(l ...api.Stmt) api.Prog {
		return api.Prog{Funcs: []api.Func{main, {Name: "f", Type: api.Int, Body: append(l, stmt(api.Return, num(1)))}}}
	}
	for what, p := range map[string]api.Prog{
		"an array's size":        {Arrays: []api.Array{{Name: "a"}}, Funcs: []api.Func{main}},
		"an array's name":        {Arrays: []api.Array{{Name: "if", Size: 1}}, Funcs: []api.Func{main}},
		"ahead of missing main":  {Arrays: []api.Array{{Name: "a", Size: -1}}},
		"ahead of a name twice":  {Funcs: []api.Func{main, main, {Name: "f"}}},
		"a function's type":      {Funcs: []api.Func{main, {Name: "f", Type: 3}}},
		"a parameter's type":     {Funcs: []api.Func{main, {Name: "f", Type: api.Int, Params: []api.Param{{Name: "x"}}}}},
		"too many parameters":    {Funcs: []api.Func{main, {Name: "f", Type: api.Int, Params: make([]api.Param, 9)}}},
		"no kind":                with(stmt(0)),
		"a kind too far":         with(stmt(11)),
		"a return of nothing":    with(stmt(api.Return)),
		"a break of something":   with(stmt(api.Break, num(1))),
		"a call of a number":     with(stmt(api.Do, num(1))),
		"a call of nothing":      with(stmt(api.Do)),
		"a let without a type":   with(api.Stmt{Kind: api.Let, Name: "x", Args: []api.Expr{num(1)}}),
		"a let without a name":   with(api.Stmt{Kind: api.Let, Type: api.Int, Args: []api.Expr{num(1)}}),
		"a while with an else":   with(api.Stmt{Kind: api.While, Args: []api.Expr{truth(1)}, Else: deep}),
		"a negative number":      with(stmt(api.Print, num(-1))),
		"a truth of 2":           with(stmt(api.If, truth(2))),
		"no expression":          with(stmt(api.Print, api.Expr{})),
		"an expression too far":  with(stmt(api.Print, api.Expr{Kind: 9})),
		"two operands of one":    with(stmt(api.Print, api.Expr{Kind: api.One, Op: api.Neg, Args: []api.Expr{num(1), num(1)}})),
		"an operator of nothing": with(stmt(api.Print, api.Expr{Kind: api.Two, Op: api.Add})),
		"no operator":            with(stmt(api.Print, two(0, num(1), num(1)))),
		"behind another error":   {Funcs: []api.Func{{Name: "main", Type: api.Int, Body: []api.Stmt{stmt(api.Break), stmt(0)}}}},
		"too deep":               with(deep...),
	} {
		if tree.Right(p) {
			t.Errorf("E4: %s: the program is valid", what)
		}
		check(t, p, verdict{fault: api.ErrArg}, what)
	}
	check(t, with(deep[0].Then...), verdict{}, "not too deep")
}

func TestE4Globals(t *testing.T) {
	for s, want := range map[string]verdict{
		"":                      {fault: api.ErrName},
		"int a[1];":             {fault: api.ErrName},
		"int main[1];":          {fault: api.ErrName},
		"int f() { return 1; }": {fault: api.ErrName},
		"int Main() { return 1; } int main1() { return 1; }":                {fault: api.ErrName},
		"bool main() { return true; }":                                      {fault: api.ErrName},
		"int main(int x) { return x; }":                                     {fault: api.ErrName},
		"bool main(bool x) { return x; }":                                   {fault: api.ErrName},
		"int main[1]; " + good:                                              {fault: api.ErrName},
		good + good:                                                         {fault: api.ErrName},
		good + "bool main(int x) { return true; }":                          {fault: api.ErrName},
		"int a[1]; int a[1]; " + good:                                       {fault: api.ErrName},
		"int a[1]; int b[2]; int a[3]; " + good:                             {fault: api.ErrName},
		"int f() { return 1; } " + good + " bool f(int x) { return true; }": {fault: api.ErrName},
		"int f[1]; " + good + " int f() { return 1; }":                      {fault: api.ErrName},
		// ahead of the errors of functions
		"int f() { break; }":                                                                                         {fault: api.ErrName},
		"int main(int x, int x) { break; }":                                                                          {fault: api.ErrName},
		"int a[1]; int a[2]; int main() { return z; }":                                                               {fault: api.ErrName},
		"int f(int x, int x) { return 1; } int f() { return 1; }":                                                    {fault: api.ErrName},
		"int main() { return 1 + true; } bool main() { return 1; }":                                                  {fault: api.ErrName},
		"int a[1]; int b[1]; " + good + " int c() { return 1; }":                                                     {},
		"int a[1]; int main() { int a = 1; int main = 2; return a; }":                                                {},
		"int a[1]; int f(int a, int f, int main) { return a[f(a, f, main)] + a; } int main() { return f(1, 2, 3); }": {},
	} {
		checkText(t, s, want)
	}
}

func TestE4Params(t *testing.T) {
	for s, want := range map[string]verdict{
		good + " int f(int x, int x) { return 1; }":                              mistake(api.ErrName, 1, 0),
		good + " int f(int x, bool y, bool x) { return 1; }":                     mistake(api.ErrName, 1, 0),
		good + " int f(int x, bool y, int z) { return 1; }":                      {},
		good + " int f(int x) { return 1; } int g(int x) { return x; }":          {},
		"int f(int x) { return 1; } int g(int y, int y) { return x; }" + good:    mistake(api.ErrName, 1, 0),
		"int f(int a, int b, int c, int d, int a) { break; }" + good:             mistake(api.ErrName, 0, 0),
		good + " int f(int x, int x) { return true; }":                           mistake(api.ErrName, 1, 0),
		good + " int f(int x, int x) { continue; }":                              mistake(api.ErrName, 1, 0),
		good + " int f(int x, int x) { }":                                        mistake(api.ErrName, 1, 0),
		"int f(int x, int x) { return 1; } int g() { break; }" + good:            mistake(api.ErrName, 0, 0),
		"int g() { print(1); print(true); } int f(int x, int x) { }" + good:      mistake(api.ErrType, 0, 1),
		"int g() { return 1; } int main() { } int f(int x, int x) { return 1; }": mistake(api.ErrEnd, 1, 0),
	} {
		checkText(t, s, want)
	}
}

// TestE4Stmts: each text stands in a function with the params i and b between
// two statements that are right.
func TestE4Stmts(t *testing.T) {
	const right, name, typ, loop = api.OK, api.ErrName, api.ErrType, api.ErrLoop
	for s, want := range map[string]api.Errno{
		"int x = 1;": right, "bool x = true;": right, "int x = i;": right, "bool i = b;": right, "int a = a[i];": right,
		"int x = z;": name, "int x = x;": name, "int x = true;": typ, "bool x = 1;": typ, "bool x = i;": typ, "int x = b;": typ, "int x = 1 + true;": typ,
		"int u = 1;": name, "bool u = true;": name, "bool u = u == 1;": name,
		"int u = true;": typ, "bool u = 1;": typ, "int u = !1;": typ, "int u = z;": name, // the order: Type, the type, the name
		"i = 2;": right, "b = i < 1;": right, "u = u;": right,
		"z = 1;": name, "a = 1;": name, "f = 1;": name, "z = !1;": name, "z = true;": name, // the order: the name, Type, the type
		"i = z;": name, "i = !1;": typ, "i = b;": typ, "b = i;": typ, "i = true;": typ, "u = b;": typ,
		"a[1] = 2;": right, "a[i] = a[i];": right,
		"z[1] = 1;": name, "i[1] = 1;": name, "f[1] = 1;": name, "z[!1] = !1;": name, "z[true] = true;": name,
		"a[z] = 1;": name, "a[!1] = 1;": typ, "a[true] = 1;": typ, "a[b] = i;": typ,
		"a[1] = z;": name, "a[1] = !1;": typ, "a[1] = true;": typ, "a[i] = b;": typ,
		"a[true] = z;": typ, "a[z] = true;": name, "a[z] = !1;": name, "a[!1] = z;": typ, // the order: all of the first, all of the second
		"if (b) { }": right, "if (i == 1) { } else { }": right,
		"if (z) { }": name, "if (!1) { }": typ, "if (i) { }": typ, "if (1) { }": typ, "if (i) { print(z); }": typ, "if (z) { } else { print(true); }": name,
		"while (b) { }": right, "while (false) { i = 1; }": right,
		"while (z) { }": name, "while (!1) { }": typ, "while (i) { }": typ, "while (1) { }": typ, "while (i) { print(z); }": typ, "while (z) { print(true); }": name,
		"return i;": right, "return z;": name, "return !1;": typ, "return b;": typ, "return true;": typ,
		"print(i);": right, "print(z);": name, "print(!1);": typ, "print(b);": typ, "print(true);": typ,
		"f(i, b);": right, "g();": right, "z();": name, "z(!1);": name, "a();": name, "f(i);": typ, "f(z);": typ, "f(b, b);": typ, "f(i, z);": name, "f(b, z);": name, "g(1);": typ,
		"break;": loop, "continue;": loop,
	} {
		text := "int a[9]; bool g() { return true; } int f(int i, bool b) { int u = 1; " + s + " return u; } int main() { return 1; }"
		if want == right {
			checkText(t, text, verdict{})
		} else {
			checkText(t, text, mistake(want, 1, 1))
		}
	}
	checkText(t, good+" bool f() { return 1; }", mistake(api.ErrType, 1, 0))
	checkText(t, good+" bool f() { return f(); }", verdict{})
	checkText(t, good+" bool f() { print(1); return main(); }", mistake(api.ErrType, 1, 1))
}

// TestE4Scopes: each text is the body of a function with the Params i and b.
func TestE4Scopes(t *testing.T) {
	for s, want := range map[string]verdict{
		// in its own list, behind itself only
		"int x = 1; print(x); x = x + 1; return x;":     {},
		"print(x); int x = 1; return x;":                mistake(api.ErrName, 1, 0),
		"x = 1; int x = 1; return x;":                   mistake(api.ErrName, 1, 0),
		"int x = x; return x;":                          mistake(api.ErrName, 1, 0),
		"int x = 1; int y = x; bool z = y == x; z = b;": mistake(api.ErrEnd, 1, 4),
		// in a list that stands in it
		"int x = 1; if (b) { print(x); } else { x = 2; } return x;":                             {},
		"int x = 1; while (x < 3) { if (x < 2) { while (b) { x = x + 1; } } } return x;":        {},
		"if (b) { print(x); } int x = 1; return x;":                                             mistake(api.ErrName, 1, 1),
		"while (b) { if (b) { int y = 1; while (b) { print(y); } } } int y = 2; return y;":      {},
		"while (b) { if (b) { int y = 1; } while (b) { print(y); } } int y = 2; return y;":      mistake(api.ErrName, 1, 4),
		"while (b) { while (b) { print(y); } int y = 1; } return i;":                            mistake(api.ErrName, 1, 2),
		"bool x = b; while (x) { int x = 1; print(x); if (b) { x = x + 1; bool x = x == 1; } }": mistake(api.ErrEnd, 1, 7),
		// behind its list
		"if (b) { int x = 1; } return x;":                              mistake(api.ErrName, 1, 2),
		"if (b) { int x = 1; } x = 1; return i;":                       mistake(api.ErrName, 1, 2),
		"if (b) { int x = 1; } else { print(x); } return i;":           mistake(api.ErrName, 1, 2),
		"if (b) { } else { int x = 1; } return x;":                     mistake(api.ErrName, 1, 2),
		"while (b) { int x = 1; } print(x); return i;":                 mistake(api.ErrName, 1, 2),
		"while (x) { bool x = true; } return i;":                       mistake(api.ErrName, 1, 0),
		"if (b) { if (b) { int x = 1; } print(x); } return i;":         mistake(api.ErrName, 1, 3),
		"if (b) { int x = 1; return x; } else { int x = 2; return x;}": {},
		"if (b) { int x = 1; } int x = 2; return x;":                   {},
		"if (b) { int x = 1; } bool x = b; b = x; return i;":           {},
		"while (b) { bool i = b; b = i; } return i;":                   {},
		"while (b) { bool i = b; b = i; } i = b; return i;":            mistake(api.ErrType, 1, 3),
		// the last one of a name counts
		"bool i = b; if (i) { return 1; } return 2;": {},
		"bool i = b; return i;":                      mistake(api.ErrType, 1, 1),
		"bool i = i == 1; int b = 3; return b;":      {},
		"int x = 1; if (b) { bool x = x == 1; if (x) { int x = 3; i = x; } b = x; } i = x; return i;": {},
		"int x = 1; if (b) { bool x = x == 1; if (x) { int x = 3; i = x; } i = x; } i = x; return i;": mistake(api.ErrType, 1, 6),
		"int x = 1; if (b) { bool x = x; } return x;":                                                 mistake(api.ErrType, 1, 2),
		"int x = 1; if (b) { x = b; bool x = b; } return x;":                                          mistake(api.ErrType, 1, 2),
		// two of a name in one list
		"int x = 1; int x = 2; return x;":  mistake(api.ErrName, 1, 1),
		"int x = 1; bool x = b; return i;": mistake(api.ErrName, 1, 1),
		"int x = 1; int y = 2; if (b) { int x = 3; int y = 4; } int z = 3; int x = 4; return x;": mistake(api.ErrName, 1, 6),
		"int x = 1; if (b) { int x = 2; int y = 1; int x = 3; } return x;":                       mistake(api.ErrName, 1, 4),
		"int x = 1; if (b) { int y = 2; } else { int x = 1; print(1); int x = 2; } return x;":    mistake(api.ErrName, 1, 5),
		"int x = 1; while (b) { int x = 2; while (b) { int x = 3; } } return x;":                 {},
		"bool i = b; int i = 1; return i;":                                                       mistake(api.ErrName, 1, 1),
		"int b = 1; int i = 2; return i + b;":                                                    {},
	} {
		checkText(t, good+" int f(int i, bool b) { "+s+" }", want)
	}
	// The variables of a function are not there in another one.
	checkText(t, "int f(int x) { int y = x; return y; } int main() { return x; }", mistake(api.ErrName, 1, 0))
	checkText(t, "int f(int x) { int y = x; return y; } int main() { return y; }", mistake(api.ErrName, 1, 0))
	checkText(t, "int main() { return x; } int f(int x) { return x; }", mistake(api.ErrName, 0, 0))
	checkText(t, "int f(int x) { int y = x; return y; } int main() { int y = 1; bool x = true; return y; }", verdict{})
}

func TestE4Loops(t *testing.T) {
	for s, want := range map[string]verdict{
		"while (b) { break; } return 1;":                                          {},
		"while (b) { continue; } return 1;":                                       {},
		"while (b) { if (b) { break; } else { continue; } } return 1;":            {},
		"while (b) { if (b) { } else { if (b) { continue; } } break; } return 1;": {},
		"if (b) { while (b) { break; } } return 1;":                               {},
		"while (b) { while (b) { break; } continue; } return 1;":                  {},
		"break;":                                               mistake(api.ErrLoop, 1, 0),
		"continue; return 1;":                                  mistake(api.ErrLoop, 1, 0),
		"return 1; break;":                                     mistake(api.ErrLoop, 1, 1),
		"while (b) { break; } break; return 1;":                mistake(api.ErrLoop, 1, 2),
		"while (b) { } continue; return 1;":                    mistake(api.ErrLoop, 1, 1),
		"if (b) { break; } return 1;":                          mistake(api.ErrLoop, 1, 1),
		"if (b) { } else { continue; } return 1;":              mistake(api.ErrLoop, 1, 1),
		"if (b) { while (b) { } break; } return 1;":            mistake(api.ErrLoop, 1, 2),
		"if (b) { while (b) { } } else { break; } return 1;":   mistake(api.ErrLoop, 1, 2),
		"while (b) { if (b) { break; } } if (b) { continue; }": mistake(api.ErrLoop, 1, 4),
	} {
		checkText(t, good+" int f(bool b) { "+s+" }", want)
	}
}

func TestE4Numbers(t *testing.T) {
	const list = "int x = 1; if (b) { print(0); while (b) { x = 2; break; } print(1); } else { if (b) { } else { print(2); } x = 3; } print(4);"
	l := stmts(t, list+" return 1;")
	// The statements in the order of the chapter: each, then those of its Then,
	// then those of its Else. Each of them in turn is made an error.
	places := []*api.Stmt{&l[0], &l[1], &l[1].Then[0], &l[1].Then[1], &l[1].Then[1].Then[0], &l[1].Then[1].Then[1], &l[1].Then[2], &l[1].Else[0], &l[1].Else[0].Else[0], &l[1].Else[1], &l[2], &l[3]}
	p := api.Prog{Funcs: []api.Func{{Name: "f", Type: api.Int, Params: []api.Param{{Name: "b", Type: api.Bool}}, Body: l}, program(t, good).Funcs[0]}}
	check(t, p, verdict{}, list)
	for n, s := range places {
		old := *s
		*s = stmt(api.Print, truth(1))
		check(t, p, mistake(api.ErrType, 0, n), list, n)
		*s = old
	}
	// Of several errors the first one by numbers is told.
	for n := len(places) - 1; n > 1; n-- {
		old := *places[n]
		old.Kind, old.Type, old.Name, old.Args = api.While, 0, "", []api.Expr{variable("z")}
		if old.Else == nil {
			*places[n] = old
			check(t, p, mistake(api.ErrName, 0, n), list, n, "and later ones")
		}
	}
}

func TestE4End(t *testing.T) {
	for s, want := range map[string]verdict{
		"":                                  mistake(api.ErrEnd, 1, 0),
		"print(1);":                         mistake(api.ErrEnd, 1, 1),
		"int x = 1; x = 2; main();":         mistake(api.ErrEnd, 1, 3),
		"if (b) { return 1; }":              mistake(api.ErrEnd, 1, 2),
		"if (b) { return 1; } else { }":     mistake(api.ErrEnd, 1, 2),
		"if (b) { } else { return 1; }":     mistake(api.ErrEnd, 1, 2),
		"while (b) { return 1; }":           mistake(api.ErrEnd, 1, 2),
		"while (true) { return 1; break; }": mistake(api.ErrEnd, 1, 3),
		"while (true) { if (b) { while (b) { } print(1); } else { break; } }": mistake(api.ErrEnd, 1, 5),
		"if (b) { return 1; } else { return 2; }":                             {},
		"while (true) { while (b) { break; } }":                               {},
		"return 1; print(1);":                                                 {},
		"if (b) { return 1; } print(true);":                                   mistake(api.ErrType, 1, 2), // ahead of ErrEnd
	} {
		checkText(t, good+" int f(bool b) { "+s+" }", want)
		// The first function with an error is told, whatever the error.
		checkText(t, good+" int f(bool b) { "+s+" } int g() { return 1; }", want)
		if want.fault != api.OK {
			checkText(t, good+" int f(bool b) { "+s+" } int g(int x, int x) { break; }", want)
			checkText(t, "int g() { break; } int f(bool b) { "+s+" } "+good, mistake(api.ErrLoop, 0, 0))
			checkText(t, "int g() { } int f(bool b) { "+s+" } "+good, mistake(api.ErrEnd, 0, 0))
		}
	}
}

// TestE4Large: programs of about as many bytes as there may be.
func TestE4Large(t *testing.T) {
	var s strings.Builder
	s.WriteString("int main() { int v = 0; ")
	name := func(n int) string {
		return "v" + strings.Repeat("x", n/676%26) + string(rune('a'+n/26%26)) + string(rune('a'+n%26))
	}
	n := 0
	for ; s.Len() < 60000; n++ {
		s.WriteString("int " + name(n) + "=v;")
	}
	checkText(t, s.String()+"return v;}", verdict{})
	checkText(t, s.String()+"}", mistake(api.ErrEnd, 0, n+1))
	checkText(t, s.String()+"int v=1;}", mistake(api.ErrName, 0, n+1))
	s.Reset()
	n = 0
	for ; s.Len() < 90000; n++ {
		s.WriteString("int " + name(n) + "(){return v();}")
	}
	checkText(t, s.String()+"int v(){return main();}"+good, verdict{})
	checkText(t, s.String()+"int v(){return z();}"+good, mistake(api.ErrName, n, 0))
}

func TestExample(t *testing.T) {
	checkText(t, "int main() { bool b = 1; }", mistake(api.ErrType, 0, 0))
}
