package types_test

import (
	"math/rand"
	"testing"

	"boxhedge/api"
	"boxhedge/parse"
	"boxhedge/types"
)

func num(n int) api.Expr         { return api.Expr{Kind: api.Num, N: n} }
func truth(n int) api.Expr       { return api.Expr{Kind: api.Truth, N: n} }
func variable(s string) api.Expr { return api.Expr{Kind: api.Var, Name: s} }
func reads() api.Expr            { return api.Expr{Kind: api.Read} }

func one(op int, a api.Expr) api.Expr {
	return api.Expr{Kind: api.One, Op: op, Args: []api.Expr{a}}
}

func two(op int, a, b api.Expr) api.Expr {
	return api.Expr{Kind: api.Two, Op: op, Args: []api.Expr{a, b}}
}

func index(s string, a api.Expr) api.Expr {
	return api.Expr{Kind: api.Index, Name: s, Args: []api.Expr{a}}
}

func call(s string, l ...api.Expr) api.Expr {
	return api.Expr{Kind: api.Call, Name: s, Args: l}
}

func stmt(kind int, l ...api.Expr) api.Stmt {
	return api.Stmt{Kind: kind, Args: l}
}

// program is the program that s is the text of.
func program(t *testing.T, s string) api.Prog {
	t.Helper()
	p, fault, line := parse.Parse(s)
	if fault != api.OK {
		t.Fatalf("%q: Parse has %d, %d", s, fault, line)
	}
	return p
}

// stmts is the statements that s is the text of.
func stmts(t *testing.T, s string) []api.Stmt {
	t.Helper()
	return program(t, "int main() { "+s+" }").Funcs[0].Body
}

// expr is the expression that s is the text of.
func expr(t *testing.T, s string) api.Expr {
	t.Helper()
	return stmts(t, "return "+s+";")[0].Args[0]
}

func TestE1(t *testing.T) {
	p := api.Prog{
		Arrays: []api.Array{{Name: "a", Size: 1}, {Name: "b", Size: 2}, {Name: "a", Size: 3}, {Name: "both", Size: 4}},
		Funcs:  []api.Func{{Name: "f", Type: api.Int}, {Name: "g", Type: api.Int}, {Name: "both", Type: api.Int}, {Name: "g", Type: api.Bool}},
	}
	for name, want := range map[string][2]int{
		"a": {-1, 0}, "b": {-1, 1}, "f": {0, -1}, "g": {1, -1}, "both": {2, 3},
		"": {-1, -1}, "c": {-1, -1}, "A": {-1, -1}, "a ": {-1, -1}, "aa": {-1, -1}, "bot": {-1, -1}, "main": {-1, -1},
	} {
		if got := [2]int{types.Place(p, name), types.Array(p, name)}; got != want {
			t.Errorf("E1: %q: Place and Array are %v, want %v", name, got, want)
		}
		if got := [2]int{types.Place(api.Prog{}, name), types.Array(api.Prog{}, name)}; got != [2]int{-1, -1} {
			t.Errorf("E1: %q: Place and Array are %v in no program", name, got)
		}
	}
}

// heads declares what the expressions of the tests use.
const heads = "int a[3]; int f(int x, bool b) { return 1; } bool g() { return true; } bool h(bool b) { return b; } int k(int x) { return x; } int main() { return 1; }"

// around is the variables where the expressions of the tests stand.
var around = []api.Param{{Name: "i", Type: api.Int}, {Name: "x", Type: api.Int}, {Name: "b", Type: api.Bool}, {Name: "y", Type: api.Bool}, {Name: "x", Type: api.Bool}, {Name: "y", Type: api.Int}}

// checkType holds Type against the want that is at hand.
func checkType(t *testing.T, p api.Prog, vars []api.Param, e api.Expr, typ int, fault api.Errno, what ...any) {
	t.Helper()
	if got, gotFault := types.Type(p, vars, e); got != typ || gotFault != fault {
		t.Errorf("E2: %v: Type has %d, %d, want %d, %d", what, got, gotFault, typ, fault)
	}
}

func TestE2Kinds(t *testing.T) {
	p := program(t, heads)
	for s, want := range map[string]int{
		"0": api.Int, "9223372036854775807": api.Int, "true": api.Bool, "false": api.Bool, "read()": api.Int,
		"i": api.Int, "b": api.Bool, "x": api.Bool, "y": api.Int,
		"a[0]": api.Int, "a[i]": api.Int, "a[a[a[read()]]]": api.Int,
		"f(1, true)": api.Int, "g()": api.Bool, "h(b)": api.Bool, "k(i)": api.Int, "main()": api.Int,
		"f(f(i, x), h(x))": api.Int, "a[f(y, g())]": api.Int,
		"i + y * -a[2]": api.Int, "i < y && !b || x == (i != 2)": api.Bool, "i8(i) >> u32(y)": api.Int,
	} {
		checkType(t, p, around, expr(t, s), want, api.OK, s)
	}
}

// TestE2Faults: the order is the name, the count, the errors of the Args, their
// types. No two errors of one order are the same one here.
func TestE2Faults(t *testing.T) {
	p := program(t, heads)
	for s, want := range map[string]api.Errno{
		// names that are not there, or are those of something else
		"z": api.ErrName, "a": api.ErrName, "f": api.ErrName, "main": api.ErrName,
		"z[1]": api.ErrName, "i[1]": api.ErrName, "f[1]": api.ErrName,
		"z()": api.ErrName, "z(1)": api.ErrName, "i()": api.ErrName, "a(1)": api.ErrName, "a()": api.ErrName,
		// the name ahead of what is in the Args
		"z[true]": api.ErrName, "z[1 + true]": api.ErrName, "z(1 + true)": api.ErrName, "z(!1, !1, !1, !1, !1, !1, !1, !1)": api.ErrName,
		// too few and too many
		"f()": api.ErrType, "f(1)": api.ErrType, "f(1, true, true)": api.ErrType, "g(1)": api.ErrType, "k()": api.ErrType, "main(1)": api.ErrType,
		// the count ahead of the errors of the Args
		"f(z)": api.ErrType, "f(z, z, z)": api.ErrType, "g(z)": api.ErrType, "k(z(), z[1])": api.ErrType,
		// the errors of the Args, in order
		"f(z, !1)": api.ErrName, "f(!1, z)": api.ErrType, "z + (1 + true)": api.ErrName, "1 + true + z": api.ErrType, "a[z]": api.ErrName, "a[a[!2]]": api.ErrType,
		"!z": api.ErrName, "i8(z)": api.ErrName, "k(z)": api.ErrName, "a[k()]": api.ErrType, "-(k(1, z))": api.ErrType,
		// the errors of the Args ahead of their types
		"f(true, z)": api.ErrName, "f(true, z[1])": api.ErrName, "true + z": api.ErrName, "1 && z": api.ErrName, "true < z()": api.ErrName, "1 == z": api.ErrName, "f(x, a[z])": api.ErrName,
		// the types of the Args
		"f(true, true)": api.ErrType, "f(1, 1)": api.ErrType, "f(true, 1)": api.ErrType, "h(1)": api.ErrType, "k(b)": api.ErrType, "a[true]": api.ErrType, "a[g()]": api.ErrType,
		"!1": api.ErrType, "-true": api.ErrType, "~b": api.ErrType, "u8(x)": api.ErrType, "x + 1": api.ErrType, "1 < y == 1": api.ErrType,
		"1 < 2 < 3": api.ErrType, "1 == 2 == 3": api.ErrType, "i && b": api.ErrType, "b || i": api.ErrType,
	} {
		checkType(t, p, around, expr(t, s), 0, want, s)
	}
}

// operators is the Words of the chapter: the types that each operator takes,
// and the one that it returns; 0 for two operands of one type.
var operators = map[int][2]int{
	api.Both: {api.Bool, api.Bool}, api.Either: {api.Bool, api.Bool}, api.Not: {api.Bool, api.Bool},
	api.Eq: {0, api.Bool}, api.Ne: {0, api.Bool},
	api.Lt: {api.Int, api.Bool}, api.Le: {api.Int, api.Bool}, api.Gt: {api.Int, api.Bool}, api.Ge: {api.Int, api.Bool},
	api.Add: {api.Int, api.Int}, api.Sub: {api.Int, api.Int}, api.Mul: {api.Int, api.Int}, api.Div: {api.Int, api.Int}, api.Rem: {api.Int, api.Int},
	api.And: {api.Int, api.Int}, api.Or: {api.Int, api.Int}, api.Xor: {api.Int, api.Int},
	api.Shl: {api.Int, api.Int}, api.Shr: {api.Int, api.Int}, api.Ushr: {api.Int, api.Int},
	api.Neg: {api.Int, api.Int}, api.Inv: {api.Int, api.Int},
	api.I8: {api.Int, api.Int}, api.I16: {api.Int, api.Int}, api.I32: {api.Int, api.Int},
	api.U8: {api.Int, api.Int}, api.U16: {api.Int, api.Int}, api.U32: {api.Int, api.Int},
}

func TestE2Operators(t *testing.T) {
	if len(operators) != api.U32 {
		t.Fatal("E2: not all operators are tested")
	}
	operands := map[int][]api.Expr{
		api.Int:  {num(1), reads(), variable("i"), one(api.Neg, num(1)), two(api.Add, num(1), num(2))},
		api.Bool: {truth(0), truth(1), variable("b"), one(api.Not, truth(1)), two(api.Eq, num(1), num(2))},
	}
	for op, row := range operators {
		for k := range operands {
			for _, x := range operands[k] {
				if op >= api.Neg {
					typ, fault := wanted(row, k)
					checkType(t, api.Prog{}, around, one(op, x), typ, fault, op, x)
					continue
				}
				for l := range operands {
					for _, y := range operands[l] {
						typ, fault := wanted(row, k, l)
						checkType(t, api.Prog{}, around, two(op, x, y), typ, fault, op, x, y)
					}
				}
			}
		}
	}
}

// wanted is what Type has of an operator with operands of these types.
func wanted(row [2]int, operands ...int) (int, api.Errno) {
	for _, k := range operands {
		if k != row[0] && !(row[0] == 0 && k == operands[0]) {
			return 0, api.ErrType
		}
	}
	return row[1], api.OK
}

func TestE2LastVariable(t *testing.T) {
	var vars []api.Param
	checkType(t, api.Prog{}, vars, variable("x"), 0, api.ErrName, "no variables")
	r := rand.New(rand.NewSource(5))
	for n := range 100 {
		last := api.Param{Name: "x", Type: 1 + r.Intn(2)}
		if vars = append(vars, last); n%3 == 0 {
			vars = append(vars, api.Param{Name: "xx", Type: 3 - last.Type}, api.Param{Name: "y", Type: 3 - last.Type})
		}
		checkType(t, api.Prog{}, vars, variable("x"), last.Type, api.OK, n, "the last one")
		checkType(t, api.Prog{}, vars, variable("z"), 0, api.ErrName, n, "none")
	}
}

// TestE2Names: arrays, functions and variables do not stand in each other's
// way, and of two functions of a name the first one is called.
func TestE2Names(t *testing.T) {
	p := api.Prog{
		Arrays: []api.Array{{Name: "n", Size: 1}},
		Funcs:  []api.Func{{Name: "n", Type: api.Bool, Params: []api.Param{{Name: "n", Type: api.Int}}}, {Name: "n", Type: api.Int}},
	}
	vars := []api.Param{{Name: "n", Type: api.Int}}
	checkType(t, p, vars, variable("n"), api.Int, api.OK)
	checkType(t, p, vars, index("n", variable("n")), api.Int, api.OK)
	checkType(t, p, vars, call("n", index("n", variable("n"))), api.Bool, api.OK)
	checkType(t, p, vars, call("n"), 0, api.ErrType)
}

// wantType is E2, word by word.
func wantType(p api.Prog, vars map[string]int, e api.Expr) (int, api.Errno) {
	place, array := types.Place(p, e.Name), types.Array(p, e.Name)
	switch {
	case e.Kind == api.Var && vars[e.Name] == 0, e.Kind == api.Index && array < 0, e.Kind == api.Call && place < 0:
		return 0, api.ErrName
	case e.Kind == api.Call && len(e.Args) != len(p.Funcs[place].Params):
		return 0, api.ErrType
	}
	var got []int
	for _, x := range e.Args {
		k, fault := wantType(p, vars, x)
		if fault != api.OK {
			return 0, fault
		}
		got = append(got, k)
	}
	switch e.Kind {
	case api.One, api.Two:
		return wanted(operators[e.Op], got...)
	case api.Index:
		return wanted([2]int{api.Int, api.Int}, got...)
	case api.Call:
		for i, x := range p.Funcs[place].Params {
			if got[i] != x.Type {
				return 0, api.ErrType
			}
		}
		return p.Funcs[place].Type, api.OK
	case api.Var:
		return vars[e.Name], api.OK
	case api.Truth:
		return api.Bool, api.OK
	}
	return api.Int, api.OK
}

// anyExpr is a valid expression of whatever names and types.
func anyExpr(r *rand.Rand, depth int) api.Expr {
	names := []string{"a", "f", "g", "h", "k", "i", "b", "x", "y"}
	if r.Intn(30) == 0 {
		names = append(names, "z")
	}
	name := names[r.Intn(len(names))]
	if depth == 1 || r.Intn(5) == 0 {
		leaves := []api.Expr{num(r.Intn(9)), truth(r.Intn(2)), reads(), variable("i"), variable("b"), variable("x"), variable("y"), variable(name), call("g")}
		return leaves[r.Intn(len(leaves))]
	}
	inner := func() api.Expr { return anyExpr(r, depth-1) }
	switch r.Intn(7) {
	case 0:
		return one(api.Neg+r.Intn(9), inner())
	case 1:
		return index([]string{"a", "a", "a", name}[r.Intn(4)], inner())
	case 2:
		return call("f", inner(), inner())
	case 3:
		return call([]string{"h", "k", name}[r.Intn(3)], inner())
	case 4:
		return two(api.Eq+r.Intn(4), inner(), inner())
	}
	return two(api.Add+r.Intn(api.Either), inner(), inner())
}

func TestE2Random(t *testing.T) {
	p := program(t, heads)
	vars := map[string]int{}
	for _, x := range around {
		vars[x.Name] = x.Type
	}
	r := rand.New(rand.NewSource(52))
	count := map[api.Errno]int{}
	for range 50000 {
		e := anyExpr(r, 1+r.Intn(5))
		typ, fault := wantType(p, vars, e)
		checkType(t, p, around, e, typ, fault, e)
		count[fault]++
	}
	for _, fault := range []api.Errno{api.OK, api.ErrName, api.ErrType} {
		if count[fault] < 1000 {
			t.Errorf("E2: too few expressions with the error %d: %v", fault, count)
		}
	}
}

func TestE2Deep(t *testing.T) {
	e := num(1)
	for range api.MaxDepth - 1 {
		e = one(api.Neg, e)
	}
	checkType(t, api.Prog{}, nil, e, api.Int, api.OK, "deep")
	e = variable("z")
	for range api.MaxDepth - 1 {
		e = two(api.And, num(1), e)
	}
	checkType(t, api.Prog{}, nil, e, 0, api.ErrName, "deep")
}

func TestE3(t *testing.T) {
	for s, want := range map[string]bool{
		"":                            false,
		"return 1;":                   true,
		"return 1; print(2);":         true,
		"print(2); return 1;":         true,
		"print(2); x = 1; f();":       false,
		"while (b) { break; } y = 1;": false,
		// an If
		"if (b) { return 1; } else { return 2; }":                         true,
		"if (b) { return 1; } else { }":                                   false,
		"if (b) { return 1; }":                                            false,
		"if (b) { } else { return 1; }":                                   false,
		"if (b) { } else { }":                                             false,
		"if (true) { return 1; }":                                         false,
		"if (b) { return 1; } else { } if (c) { } else { return 1; }":     false,
		"if (b) { return 1; } return 2;":                                  true,
		"if (b) { while (true) { } } else { if (c) { return 1; } }":       false,
		"if (b) { while (true) { } } else { print(1); return 1; x = 2; }": true,
		"if (b) { if (c) { return 1; } else { return 2; } } else { if (c) { return 1; } else { while (true) { } } } x = 1;": true,
		// a While
		"while (true) { }":                                true,
		"while (true) { continue; }":                      true,
		"while (true) { print(1); } print(2);":            true,
		"while (false) { }":                               false,
		"while (1 < 2) { return 1; }":                     false,
		"while (!false) { }":                              false,
		"while (true == true) { }":                        false,
		"while (b) { return 1; }":                         false,
		"while (1) { }":                                   false,
		"while (true) { break; }":                         false,
		"while (true) { return 1; break; }":               false,
		"while (true) { return 1; }":                      true,
		"while (true) { if (b) { break; } }":              false,
		"while (true) { if (b) { } else { break; } }":     false,
		"while (true) { if (b) { if (c) { break; } } }":   false,
		"while (true) { while (b) { break; } }":           true,
		"while (true) { while (b) { if (c) { break; } }}": true,
		"while (true) { while (b) { break; } break; }":    false,
		"while (true) { while (b) { } if (c) { break; }}": false,
		"while (true) { if (b) { while (c) { break; } }}": true,
		"while (b) { while (true) { } }":                  false,
		"while (false) { while (true) { } }":              false,
		"while (true) { while (true) { break; } }":        true,
		"while (true) { break; } return 1;":               true,
	} {
		if got := types.Ends(stmts(t, s)); got != want {
			t.Errorf("E3: %q: Ends is %v, want %v", s, got, want)
		}
	}
}

// anyStmts is a list of valid statements that often end.
func anyStmts(r *rand.Rand, depth int) []api.Stmt {
	var l []api.Stmt
	if depth == 0 {
		return l
	}
	for range r.Intn(3) {
		s := stmt([]int{api.Break, api.Continue, api.Return, api.Print, api.If, api.While}[r.Intn(6)])
		switch s.Kind {
		case api.Return, api.Print:
			s.Args = []api.Expr{num(1)}
		case api.If:
			s.Args, s.Then, s.Else = []api.Expr{truth(r.Intn(2))}, anyStmts(r, depth-1), anyStmts(r, depth-1)
		case api.While:
			s.Args, s.Then = []api.Expr{truth(min(1, r.Intn(4)))}, anyStmts(r, depth-1)
		}
		l = append(l, s)
	}
	return l
}

// leaves tells how many Breaks of the loop around them these statements have.
func leaves(l []api.Stmt) int {
	n := 0
	for _, s := range l {
		switch s.Kind {
		case api.Break:
			n++
		case api.If:
			n += leaves(append(append([]api.Stmt{}, s.Then...), s.Else...))
		}
	}
	return n
}

// TestE3Random: a list ends if one of its statements does, alone.
func TestE3Random(t *testing.T) {
	r := rand.New(rand.NewSource(53))
	count := [2]int{}
	for range 20000 {
		l := anyStmts(r, 5)
		want := false
		for i, s := range l {
			alone := s.Kind == api.Return
			switch s.Kind {
			case api.If:
				alone = types.Ends(s.Then) && types.Ends(s.Else)
			case api.While:
				alone = s.Args[0].N == 1 && leaves(s.Then) == 0
			}
			if got := types.Ends(l[i : i+1]); got != alone {
				t.Fatalf("E3: %v: Ends is %v, want %v", s, got, alone)
			}
			want = want || alone
		}
		if got := types.Ends(l); got != want {
			t.Fatalf("E3: %v: Ends is %v, want %v", l, got, want)
		}
		if want {
			count[1]++
		} else {
			count[0]++
		}
	}
	if min(count[0], count[1]) < 1000 {
		t.Errorf("E3: too few lists of a kind: %v", count)
	}
}
