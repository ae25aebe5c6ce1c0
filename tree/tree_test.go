package tree_test

import (
	"math"
	"strings"
	"testing"

	"boxhedge/api"
	"boxhedge/tree"
)

func num(n int) api.Expr { return api.Expr{Kind: api.Num, N: n} }

func variable(s string) api.Expr { return api.Expr{Kind: api.Var, Name: s} }

func one(op int, a api.Expr) api.Expr {
	return api.Expr{Kind: api.One, Op: op, Args: []api.Expr{a}}
}

func two(op int, a, b api.Expr) api.Expr {
	return api.Expr{Kind: api.Two, Op: op, Args: []api.Expr{a, b}}
}

func index(s string, a api.Expr) api.Expr {
	return api.Expr{Kind: api.Index, Name: s, Args: []api.Expr{a}}
}

func call(s string, args ...api.Expr) api.Expr {
	return api.Expr{Kind: api.Call, Name: s, Args: args}
}

func stmt(kind int, args ...api.Expr) api.Stmt { return api.Stmt{Kind: kind, Args: args} }

// body is a program of one function with these statements.
func body(l ...api.Stmt) api.Prog {
	return api.Prog{Funcs: []api.Func{{Name: "f", Type: api.Int, Body: l}}}
}

// returns is a program that returns e.
func returns(e api.Expr) api.Prog { return body(stmt(api.Return, e)) }

// check holds Right against want, and Print against Right.
func check(t *testing.T, p api.Prog, want bool, what ...any) {
	t.Helper()
	if got := tree.Right(p); got != want {
		t.Errorf("C1: %v: Right is %v, want %v", what, got, want)
	}
	s, e := tree.Print(p)
	if want && e != api.OK || !want && (e != api.ErrArg || s != "") {
		t.Errorf("C2: %v: Print has %q, %d of a program of which Right should be %v", what, s, e, want)
	}
}

var (
	goodNames = []string{"x", "_", "Z9_a", "main", "integer", "If", strings.Repeat("a", 20)}
	badNames  = []string{"", " ", "1x", "9", "x y", "x-", "if", "int", "true", "read", "u32", "\u00e9", "x\xff", "x\n", strings.Repeat("a", 21)}
)

func TestC1Arrays(t *testing.T) {
	for _, s := range goodNames {
		check(t, api.Prog{Arrays: []api.Array{{Name: s, Size: 1}}}, true, s)
	}
	for _, s := range badNames {
		check(t, api.Prog{Arrays: []api.Array{{Name: s, Size: 1}}}, false, s)
	}
	for size, want := range map[int]bool{1: true, 2: true, 999: true, 1000: true, 0: false, -1: false, 1001: false, math.MaxInt: false, math.MinInt: false, 1<<32 + 1: false} {
		check(t, api.Prog{Arrays: []api.Array{{Name: "a", Size: size}}}, want, size)
		check(t, api.Prog{Arrays: []api.Array{{Name: "a", Size: 1}, {Name: "b", Size: size}}}, want, "second", size)
	}
}

func TestC1Funcs(t *testing.T) {
	for _, s := range goodNames {
		check(t, api.Prog{Funcs: []api.Func{{Name: s, Type: api.Int}}}, true, s)
		check(t, api.Prog{Funcs: []api.Func{{Name: "f", Type: api.Bool, Params: []api.Param{{Name: s, Type: api.Int}}}}}, true, s)
	}
	for _, s := range badNames {
		check(t, api.Prog{Funcs: []api.Func{{Name: s, Type: api.Int}}}, false, s)
		check(t, api.Prog{Funcs: []api.Func{{Name: "f", Type: api.Int}, {Name: s, Type: api.Int}}}, false, "second", s)
		check(t, api.Prog{Funcs: []api.Func{{Name: "f", Type: api.Int, Params: []api.Param{{Name: "x", Type: api.Int}, {Name: s, Type: api.Int}}}}}, false, "parameter", s)
	}
	for typ, want := range map[int]bool{api.Int: true, api.Bool: true, 0: false, 3: false, -1: false, 1 << 32: false, 1<<32 + 1: false} {
		check(t, api.Prog{Funcs: []api.Func{{Name: "f", Type: typ}}}, want, typ)
		check(t, api.Prog{Funcs: []api.Func{{Name: "f", Type: api.Int, Params: []api.Param{{Name: "x", Type: api.Int}, {Name: "y", Type: typ}}}}}, want, "parameter", typ)
	}
	for n := range 20 {
		l := make([]api.Param, n)
		for i := range l {
			l[i] = api.Param{Name: "x", Type: api.Int}
		}
		check(t, api.Prog{Funcs: []api.Func{{Name: "f", Type: api.Int, Params: l}}}, n <= 8, "parameters", n)
	}
}

// TestC1NoMore: what later layers ask of a program is not asked here.
func TestC1NoMore(t *testing.T) {
	check(t, api.Prog{}, true, "nothing")
	check(t, api.Prog{Arrays: []api.Array{}, Funcs: []api.Func{}}, true, "empty lists")
	f := api.Func{Name: "x", Type: api.Bool, Params: []api.Param{{Name: "x", Type: api.Int}, {Name: "x", Type: api.Bool}}}
	check(t, api.Prog{Arrays: []api.Array{{Name: "x", Size: 1}, {Name: "x", Size: 2}}, Funcs: []api.Func{f, f}}, true, "names that stand twice")
	check(t, body(stmt(api.Break), stmt(api.Continue), stmt(api.Print, api.Expr{Kind: api.Truth}), stmt(api.Return, two(api.Both, num(1), variable("nowhere")))), true, "types, names and loops")
}

// form is what the chapter says of the fields of a kind; args are how many Args
// it may have.
type form struct {
	ops, ns     []int
	name        bool
	least, most int
}

var (
	none  = []int{0}
	ones  = []int{api.Neg, api.Inv, api.Not, api.I8, api.I16, api.I32, api.U8, api.U16, api.U32}
	twos  = []int{api.Add, api.Sub, api.Mul, api.Div, api.Rem, api.And, api.Or, api.Xor, api.Shl, api.Shr, api.Ushr, api.Lt, api.Le, api.Gt, api.Ge, api.Eq, api.Ne, api.Both, api.Either}
	forms = map[int]form{
		api.Num:   {none, []int{0, 1, 2, math.MaxInt}, false, 0, 0},
		api.Truth: {none, []int{0, 1}, false, 0, 0},
		api.Var:   {none, none, true, 0, 0},
		api.One:   {ones, none, false, 1, 1},
		api.Two:   {twos, none, false, 2, 2},
		api.Index: {none, none, true, 1, 1},
		api.Call:  {none, none, true, 0, 8},
		api.Read:  {none, none, false, 0, 0},
	}
)

func among(n int, l []int) bool {
	for _, x := range l {
		if x == n {
			return true
		}
	}
	return false
}

// fits is C1 of one expression without what is in its Args.
func fits(e api.Expr) bool {
	f, ok := forms[e.Kind]
	if !ok || !among(e.Op, f.ops) || !among(e.N, f.ns) || len(e.Args) < f.least || len(e.Args) > f.most {
		return false
	}
	if f.name {
		return e.Name == "x" || e.Name == "abcdefghijklmnopqrst"
	}
	return e.Name == ""
}

// TestC1Exprs: all kinds with all operators, and with fields that they have and
// do not have.
func TestC1Exprs(t *testing.T) {
	kinds := []int{-1, 0, 1, 2, 3, 4, 5, 6, 7, 8, 9, 10, 1<<32 + 1, math.MinInt, math.MaxInt}
	ops := []int{-1, 29, 30, 1<<32 + 1, math.MinInt, math.MaxInt}
	for op := range 29 {
		ops = append(ops, op)
	}
	valid := 0
	for _, kind := range kinds {
		for _, op := range ops {
			for _, n := range []int{0, 1, 2, -1, math.MinInt, math.MaxInt} {
				for _, name := range []string{"", "x", "abcdefghijklmnopqrst", "abcdefghijklmnopqrstu", "if", "1"} {
					for args := range 11 {
						e := api.Expr{Kind: kind, Op: op, N: n, Name: name}
						for range args {
							e.Args = append(e.Args, num(1))
						}
						want := fits(e)
						if want {
							valid++
						}
						if got := tree.Right(returns(e)); got != want {
							t.Fatalf("C1: Right of %+v is %v, want %v", e, got, want)
						}
					}
				}
			}
		}
	}
	// 4 numbers, 2 truths, 2 names, 9 operators with one operand and 19 with two,
	// 2 indexes, 2 calls with 0 to 8 Args, and a read
	if want := 4 + 2 + 2 + 9 + 19 + 2 + 2*9 + 1; valid != want {
		t.Errorf("%d expressions are valid, want %d", valid, want)
	}
}

// TestC1NumbersAndNames: all names and some numbers, at the kinds that have them.
func TestC1NumbersAndNames(t *testing.T) {
	for _, s := range goodNames {
		for _, e := range []api.Expr{variable(s), index(s, num(0)), call(s), call(s, num(1))} {
			check(t, returns(e), true, s)
		}
		for _, x := range []api.Stmt{{Kind: api.Let, Type: api.Int, Name: s, Args: []api.Expr{num(1)}}, {Kind: api.Set, Name: s, Args: []api.Expr{num(1)}}, {Kind: api.Put, Name: s, Args: []api.Expr{num(1), num(1)}}} {
			check(t, body(x), true, s)
		}
	}
	for _, s := range badNames {
		for _, e := range []api.Expr{variable(s), index(s, num(0)), call(s), call(s, num(1))} {
			check(t, returns(e), false, s)
		}
		for _, x := range []api.Stmt{{Kind: api.Let, Type: api.Int, Name: s, Args: []api.Expr{num(1)}}, {Kind: api.Set, Name: s, Args: []api.Expr{num(1)}}, {Kind: api.Put, Name: s, Args: []api.Expr{num(1), num(1)}}} {
			check(t, body(x), false, s)
		}
	}
	for n, want := range map[int]bool{0: true, 7: true, 1 << 40: true, math.MaxInt: true, -1: false, -7: false, math.MinInt: false} {
		check(t, returns(num(n)), want, n)
	}
}

// holders are expressions that have e among what is in them.
func holders(e api.Expr) []api.Expr {
	x := variable("x")
	l := []api.Expr{one(api.Neg, e), one(api.U32, e), two(api.Add, e, x), two(api.Either, x, e), index("a", e), call("f", e), call("f", x, x, x, x, x, x, x, e), call("f", x, e, x)}
	for _, h := range l[:len(l):len(l)] {
		l = append(l, one(api.Not, h), two(api.Mul, x, h), call("f", x, h))
	}
	return l
}

// bearers are statements that have e among their expressions.
func bearers(e api.Expr) []api.Stmt {
	x := variable("x")
	return []api.Stmt{
		{Kind: api.Let, Type: api.Bool, Name: "x", Args: []api.Expr{e}}, {Kind: api.Set, Name: "x", Args: []api.Expr{e}},
		{Kind: api.Put, Name: "x", Args: []api.Expr{e, x}}, {Kind: api.Put, Name: "x", Args: []api.Expr{x, e}},
		stmt(api.If, e), stmt(api.While, e), stmt(api.Return, e), stmt(api.Print, e), stmt(api.Do, call("f", e)), stmt(api.Do, call("f", x, e)),
	}
}

// nests are statements that have s among what is in them.
func nests(s api.Stmt) []api.Stmt {
	x, other := []api.Expr{variable("x")}, stmt(api.Break)
	l := []api.Stmt{
		{Kind: api.If, Args: x, Then: []api.Stmt{s}}, {Kind: api.If, Args: x, Else: []api.Stmt{s}}, {Kind: api.If, Args: x, Then: []api.Stmt{other, s}, Else: []api.Stmt{other}},
		{Kind: api.If, Args: x, Then: []api.Stmt{other}, Else: []api.Stmt{other, s, other}}, {Kind: api.While, Args: x, Then: []api.Stmt{s}}, {Kind: api.While, Args: x, Then: []api.Stmt{other, s}},
	}
	for _, n := range l[:len(l):len(l)] {
		l = append(l, api.Stmt{Kind: api.If, Args: x, Else: []api.Stmt{n}}, api.Stmt{Kind: api.While, Args: x, Then: []api.Stmt{other, n}})
	}
	return l
}

// TestC1ExprPlaces: an expression that is not valid is found wherever it is.
func TestC1ExprPlaces(t *testing.T) {
	for e, want := range map[string]bool{"ok": true, "if": false} {
		inner := variable(e)
		for i, s := range bearers(inner) {
			check(t, body(s), want, e, i)
			for j, n := range nests(s) {
				check(t, body(stmt(api.Break), n), want, e, i, j)
			}
		}
		for i, h := range holders(inner) {
			check(t, returns(h), want, e, i)
			for j, s := range bearers(h) {
				check(t, body(s), want, e, i, j)
			}
		}
	}
}

// TestC1StmtPlaces: a statement that is not valid is found wherever it is.
func TestC1StmtPlaces(t *testing.T) {
	x := []api.Expr{variable("x")}
	for i, s := range []api.Stmt{stmt(api.Break), {}, stmt(api.Break, num(1)), stmt(api.Return), {Kind: api.Let, Name: "x", Args: x}, {Kind: 11}} {
		want := i == 0
		check(t, body(s), want, i)
		check(t, body(stmt(api.Continue), s), want, i)
		check(t, body(s, stmt(api.Continue)), want, i)
		for j, n := range nests(s) {
			check(t, body(n), want, i, j)
			p := body(stmt(api.Break), n, stmt(api.Continue))
			p.Funcs = append([]api.Func{{Name: "g", Type: api.Bool}}, p.Funcs...)
			check(t, p, want, i, j)
		}
	}
}

// stmtForm is what the chapter says of the fields of a kind of statement.
type stmtForm struct {
	typ, name, then, other bool
	args                   int
}

var stmtForms = map[int]stmtForm{
	api.Let:      {typ: true, name: true, args: 1},
	api.Set:      {name: true, args: 1},
	api.Put:      {name: true, args: 2},
	api.If:       {args: 1, then: true, other: true},
	api.While:    {args: 1, then: true},
	api.Break:    {},
	api.Continue: {},
	api.Return:   {args: 1},
	api.Print:    {args: 1},
	api.Do:       {args: 1},
}

// stmtFits is C1 of one statement whose Args are calls, without what is in its
// lists.
func stmtFits(s api.Stmt) bool {
	f, ok := stmtForms[s.Kind]
	if !ok || len(s.Args) != f.args || len(s.Then) > 0 && !f.then || len(s.Else) > 0 && !f.other {
		return false
	}
	if f.typ != (s.Type == 1 || s.Type == 2) || !f.typ && s.Type != 0 {
		return false
	}
	return f.name && s.Name == "x" || !f.name && s.Name == ""
}

// TestC1Stmts: all kinds with fields that they have and do not have.
func TestC1Stmts(t *testing.T) {
	valid := 0
	for _, kind := range []int{-1, 0, 1, 2, 3, 4, 5, 6, 7, 8, 9, 10, 11, 12, 1<<32 + 1, math.MinInt, math.MaxInt} {
		for _, typ := range []int{0, 1, 2, 3, -1, 1<<32 + 1} {
			for _, name := range []string{"", "x", "if", "1"} {
				for args := range 4 {
					for lists := range 9 {
						s := api.Stmt{Kind: kind, Type: typ, Name: name}
						for range args {
							s.Args = append(s.Args, call("g"))
						}
						for range lists % 3 {
							s.Then = append(s.Then, stmt(api.Break))
						}
						for range lists / 3 {
							s.Else = append(s.Else, stmt(api.Break))
						}
						want := stmtFits(s)
						if want {
							valid++
						}
						if got := tree.Right(body(s)); got != want {
							t.Fatalf("C1: Right of %+v is %v, want %v", s, got, want)
						}
					}
				}
			}
		}
	}
	if want := 2 + 1 + 1 + 9 + 3 + 1 + 1 + 1 + 1 + 1; valid != want {
		t.Errorf("%d statements are valid, want %d", valid, want)
	}
}

func TestC1Do(t *testing.T) {
	check(t, body(stmt(api.Do, call("f"))), true)
	check(t, body(stmt(api.Do, call("f", num(1), call("g")))), true)
	for i, e := range []api.Expr{num(1), {Kind: api.Truth}, variable("f"), {Kind: api.Read}, index("a", num(1)), one(api.I8, call("f")), one(api.Neg, call("f")), two(api.Add, call("f"), call("f")), {}} {
		check(t, body(stmt(api.Do, e)), false, i)
	}
}

// deepExprs are expressions of the depth n, deep at several places.
func deepExprs(n int) []api.Expr {
	x := variable("x")
	l := []api.Expr{x, x, x, x, x, x}
	for range n - 1 {
		l = []api.Expr{one(api.Not, l[0]), one(api.U8, l[1]), two(api.Add, l[2], x), two(api.Sub, x, l[3]), index("a", l[4]), call("f", x, x, l[5])}
	}
	return l
}

// deepStmts are statements of the depth n, deep at several places.
func deepStmts(n int) []api.Stmt {
	x, s := []api.Expr{variable("x")}, stmt(api.Break)
	l := []api.Stmt{s, s, s, s}
	for range n - 1 {
		l = []api.Stmt{
			{Kind: api.If, Args: x, Then: []api.Stmt{l[0]}}, {Kind: api.If, Args: x, Else: []api.Stmt{s, l[1]}},
			{Kind: api.While, Args: x, Then: []api.Stmt{s, l[2]}}, {Kind: api.If, Args: x, Then: []api.Stmt{s}, Else: []api.Stmt{l[3], s}},
		}
	}
	return l
}

func TestC1Depths(t *testing.T) {
	for n, want := range map[int]bool{1: true, 2: true, 50: true, 99: true, 100: true, 101: false, 102: false, 200: false, 5000: false} {
		for i, e := range deepExprs(n) {
			check(t, returns(e), want, n, i)
			check(t, body(bearers(e)[3]), want, n, i)
			check(t, body(nests(stmt(api.Print, e))[10]), want, n, i)
		}
		for i, s := range deepStmts(n) {
			check(t, body(s), want, n, i)
			check(t, body(stmt(api.Break), s), want, n, i)
		}
		// A Do is no level of its own: the call that is its expression is the first.
		check(t, body(stmt(api.Do, deepExprs(max(n, 2))[5])), want, n, "do")
	}
}

// TestC1BothDepths: the depths of statements and of the expressions in them are
// counted apart.
func TestC1BothDepths(t *testing.T) {
	for n, want := range map[int]bool{100: true, 101: false} {
		s := stmt(api.Print, deepExprs(n)[2])
		for range 99 {
			s = api.Stmt{Kind: api.While, Args: []api.Expr{deepExprs(100)[0]}, Then: []api.Stmt{s}}
		}
		check(t, body(s), want, n)
		check(t, body(api.Stmt{Kind: api.If, Args: []api.Expr{num(1)}, Then: []api.Stmt{s}}), false, n, "deeper")
	}
}

// TestC1Endless: trees that hold themselves have no depth, and deep ones are
// left at the limit.
func TestC1Endless(t *testing.T) {
	both := []api.Expr{two(api.Add, num(1), num(1)), two(api.Add, num(1), num(1))}
	both[0].Args, both[1].Args = both, both
	late := call("f", num(1), num(2), num(3))
	late.Args[2] = late
	check(t, returns(both[0]), false, "both operands")
	check(t, returns(late), false, "the last argument")
	x := []api.Expr{variable("x")}
	loop := []api.Stmt{stmt(api.Break), {Kind: api.If, Args: x}, {Kind: api.While, Args: x}}
	loop[1].Then, loop[1].Else, loop[2].Then = loop, loop, loop
	check(t, body(loop...), false, "statements")
	second := []api.Stmt{stmt(api.Break), {Kind: api.If, Args: x}}
	second[1].Else = second
	check(t, body(second...), false, "else")
	for i, e := range deepExprs(200000) {
		check(t, returns(e), false, "deep", i)
	}
	for i, s := range deepStmts(200000) {
		check(t, body(s), false, "deep", i)
	}
}

// TestC1Wide: there is no limit to how many there are side by side.
func TestC1Wide(t *testing.T) {
	l := make([]api.Stmt, 20000)
	for i := range l {
		l[i] = stmt(api.Print, num(i))
	}
	f := api.Func{Name: "f", Type: api.Int, Body: l}
	p := api.Prog{Funcs: []api.Func{f, f, f, f, f}}
	for range 3000 {
		p.Arrays = append(p.Arrays, api.Array{Name: "a", Size: 1})
	}
	check(t, p, true)
	l[19999].Type = 1
	check(t, p, false)
}
