package parse_test

import (
	"math"
	"math/rand"
	"reflect"
	"strconv"
	"strings"
	"testing"

	"boxhedge/api"
	"boxhedge/parse"
)

func num(n int) api.Expr         { return api.Expr{Kind: api.Num, N: n} }
func truth(n int) api.Expr       { return api.Expr{Kind: api.Truth, N: n} }
func variable(s string) api.Expr { return api.Expr{Kind: api.Var, Name: s} }
func reads() api.Expr            { return api.Expr{Kind: api.Read} }

func one(op int, a api.Expr) api.Expr {
	return api.Expr{Kind: api.One, Op: op, Args: []api.Expr{a}}
}

func two(op int, a, b api.Expr) api.Expr {
	return api.Expr{Kind: api.Two, Op: op, Args: []api.Expr{a, b}}
}

func index(s string, a api.Expr) api.Expr {
	return api.Expr{Kind: api.Index, Name: s, Args: []api.Expr{a}}
}

func call(s string, l ...api.Expr) api.Expr {
	return api.Expr{Kind: api.Call, Name: s, Args: l}
}

func stmt(kind int, l ...api.Expr) api.Stmt {
	return api.Stmt{Kind: kind, Args: l}
}

// body is a program with one function of these statements.
func body(l ...api.Stmt) api.Prog {
	return api.Prog{Funcs: []api.Func{{Name: "f", Type: api.Int, Body: l}}}
}

// short is s, cut where it would fill the screen.
func short(s string) string {
	if len(s) > 300 {
		return strconv.Quote(s[:300]) + "..."
	}
	return strconv.Quote(s)
}

// parsed is the program of a text that must be right.
func parsed(t *testing.T, s string) api.Prog {
	t.Helper()
	p, e, line := parse.Parse(s)
	if e != api.OK || line != 0 {
		t.Fatalf("D1: Parse(%s) has the error %d and the line %d", short(s), e, line)
	}
	return p
}

// check holds Parse(s) against a program.
func check(t *testing.T, s string, want api.Prog) {
	t.Helper()
	if p := parsed(t, s); !reflect.DeepEqual(p, want) {
		t.Errorf("D1: Parse(%s) is %+v, want %+v", short(s), p, want)
	}
}

// checkFault holds Parse(s) against an error and a line.
func checkFault(t *testing.T, s string, fault api.Errno, line int) {
	t.Helper()
	p, e, n := parse.Parse(s)
	if e != fault || n != line {
		t.Errorf("D1: Parse(%s) has the error %d and the line %d, want %d and %d", short(s), e, n, fault, line)
	}
	if p.Arrays != nil || p.Funcs != nil {
		t.Errorf("D1: Parse(%s) has an error and a program", short(s))
	}
}

func TestD1Heads(t *testing.T) {
	g := api.Func{Name: "g", Type: api.Bool, Params: []api.Param{{Name: "x", Type: api.Int}}}
	check(t, "", api.Prog{})
	check(t, " \n\t// nothing", api.Prog{})
	check(t, "int a[1];", api.Prog{Arrays: []api.Array{{Name: "a", Size: 1}}})
	check(t, "int a[1000]; int _b2[7];", api.Prog{Arrays: []api.Array{{Name: "a", Size: 1000}, {Name: "_b2", Size: 7}}})
	check(t, "int f() {}", body())
	check(t, "bool g(int x) {}", api.Prog{Funcs: []api.Func{g}})
	check(t, "int a[3]; bool g(int x) {} int f() {}", api.Prog{Arrays: []api.Array{{Name: "a", Size: 3}}, Funcs: []api.Func{g, {Name: "f", Type: api.Int}}})
	check(t, "int f(bool y, int x) { break; } bool g(int x) {}", api.Prog{Funcs: []api.Func{
		{Name: "f", Type: api.Int, Params: []api.Param{{Name: "y", Type: api.Bool}, {Name: "x", Type: api.Int}}, Body: []api.Stmt{stmt(api.Break)}}, g,
	}})
	var l []api.Param
	for _, s := range strings.Split("abcdefgh", "") {
		l = append(l, api.Param{Name: s, Type: api.Bool})
		text := "int f(" + strings.TrimPrefix(strings.Repeat(", bool #", len(l)), ", ") + ") {}"
		for _, x := range l {
			text = strings.Replace(text, "#", x.Name, 1)
		}
		check(t, text, api.Prog{Funcs: []api.Func{{Name: "f", Type: api.Int, Params: l}}})
	}
	// Names and types are asked for in a later layer.
	check(t, "int x[1]; int x[2]; int x(int x, bool x) { x = true; break; } int x() {}", api.Prog{
		Arrays: []api.Array{{Name: "x", Size: 1}, {Name: "x", Size: 2}},
		Funcs: []api.Func{
			{Name: "x", Type: api.Int, Params: []api.Param{{Name: "x", Type: api.Int}, {Name: "x", Type: api.Bool}}, Body: []api.Stmt{{Kind: api.Set, Name: "x", Args: []api.Expr{truth(1)}}, stmt(api.Break)}},
			{Name: "x", Type: api.Int},
		},
	})
}

func TestD1Stmts(t *testing.T) {
	x := []api.Expr{variable("x")}
	brk, cont := stmt(api.Break), stmt(api.Continue)
	for s, want := range map[string]api.Stmt{
		"int z = x;":                {Kind: api.Let, Type: api.Int, Name: "z", Args: x},
		"bool z = x;":               {Kind: api.Let, Type: api.Bool, Name: "z", Args: x},
		"z = x;":                    {Kind: api.Set, Name: "z", Args: x},
		"z = 1 + 2;":                {Kind: api.Set, Name: "z", Args: []api.Expr{two(api.Add, num(1), num(2))}},
		"a[1 - 2] = -x;":            {Kind: api.Put, Name: "a", Args: []api.Expr{two(api.Sub, num(1), num(2)), one(api.Neg, x[0])}},
		"g();":                      stmt(api.Do, call("g")),
		"g(x);":                     stmt(api.Do, call("g", x[0])),
		"g(x, 1 || 2, g());":        stmt(api.Do, call("g", x[0], two(api.Either, num(1), num(2)), call("g"))),
		"g(1,2,3,4,5,6,7,8);":       stmt(api.Do, call("g", num(1), num(2), num(3), num(4), num(5), num(6), num(7), num(8))),
		"break;":                    brk,
		"continue;":                 cont,
		"return x;":                 stmt(api.Return, x...),
		"return (x);":               stmt(api.Return, x...),
		"return(x) + 1;":            stmt(api.Return, two(api.Add, x[0], num(1))),
		"print(x);":                 stmt(api.Print, x...),
		"print((x));":               stmt(api.Print, x...),
		"if (x) {}":                 {Kind: api.If, Args: x},
		"if (x) {} else {}":         {Kind: api.If, Args: x},
		"if (x) { break; }":         {Kind: api.If, Args: x, Then: []api.Stmt{brk}},
		"if (x) {} else { break; }": {Kind: api.If, Args: x, Else: []api.Stmt{brk}},
		"if (x) { break; continue; } else { continue; break; }": {Kind: api.If, Args: x, Then: []api.Stmt{brk, cont}, Else: []api.Stmt{cont, brk}},
		"if (x < 1 && x) { if (x) {} else { break; } }": {
			Kind: api.If, Args: []api.Expr{two(api.Both, two(api.Lt, x[0], num(1)), x[0])},
			Then: []api.Stmt{{Kind: api.If, Args: x, Else: []api.Stmt{brk}}},
		},
		"if (x) { if (x) {} } else { break; }": {Kind: api.If, Args: x, Then: []api.Stmt{{Kind: api.If, Args: x}}, Else: []api.Stmt{brk}},
		"while (x) {}":                         {Kind: api.While, Args: x},
		"while ((x) == 1) { while (true) { break; } continue; }": {
			Kind: api.While, Args: []api.Expr{two(api.Eq, x[0], num(1))},
			Then: []api.Stmt{{Kind: api.While, Args: []api.Expr{truth(1)}, Then: []api.Stmt{brk}}, cont},
		},
	} {
		check(t, "int f() { "+s+" }", body(want))
		check(t, "int f() { continue; "+s+s+" break; }", body(cont, want, want, brk))
		check(t, "int f() { while (x) { "+s+" } }", body(api.Stmt{Kind: api.While, Args: x, Then: []api.Stmt{want}}))
		check(t, "int f() { if (x) { break; } else { "+s+" } "+s+" }", body(api.Stmt{Kind: api.If, Args: x, Then: []api.Stmt{brk}, Else: []api.Stmt{want}}, want))
	}
}

// exprs are texts of expressions without operators with two operands outside of
// brackets.
func exprs() map[string]api.Expr {
	x := variable("x")
	sum := two(api.Add, x, num(1))
	return map[string]api.Expr{
		"0": num(0), "1": num(1), "10": num(10), "9223372036854775807": num(math.MaxInt),
		"true": truth(1), "false": truth(0), "x": x, "_a9": variable("_a9"), "abcdefghijklmnopqrst": variable("abcdefghijklmnopqrst"), "read()": reads(),
		"-x": one(api.Neg, x), "~x": one(api.Inv, x), "!x": one(api.Not, x), "-1": one(api.Neg, num(1)), "-9223372036854775807": one(api.Neg, num(math.MaxInt)),
		"--1": one(api.Neg, one(api.Neg, num(1))), "!~-x": one(api.Not, one(api.Inv, one(api.Neg, x))), "-(x + 1)": one(api.Neg, sum), "-(x)": one(api.Neg, x),
		"-a[x]": one(api.Neg, index("a", x)), "!g(x)": one(api.Not, call("g", x)), "~read()": one(api.Inv, reads()), "-i8(x)": one(api.Neg, one(api.I8, x)), "!true": one(api.Not, truth(1)),
		"i8(x)": one(api.I8, x), "i16(x)": one(api.I16, x), "i32(x)": one(api.I32, x), "u8(x)": one(api.U8, x), "u16(x)": one(api.U16, x), "u32(x)": one(api.U32, x),
		"u8(x + 1)": one(api.U8, sum), "u8((x + 1))": one(api.U8, sum), "u8(i8(-x))": one(api.U8, one(api.I8, one(api.Neg, x))),
		"a[x]": index("a", x), "a[x + 1]": index("a", sum), "a[a[(x)]]": index("a", index("a", x)), "a[true]": index("a", truth(1)),
		"g()": call("g"), "g(x)": call("g", x), "g((x))": call("g", x), "g(x, 1)": call("g", x, num(1)), "g(x + 1, a[x], g())": call("g", sum, index("a", x), call("g")),
		"g(1, 2, 3, 4, 5, 6, 7, 8)": call("g", num(1), num(2), num(3), num(4), num(5), num(6), num(7), num(8)),
		"(x)":                       x, "((x))": x, "(x + 1)": sum, "((x) + (1))": sum, "((-x))": one(api.Neg, x),
	}
}

// TestD1Exprs: each form of an expression, in all statements that have one.
func TestD1Exprs(t *testing.T) {
	x := variable("x")
	for s, e := range exprs() {
		check(t, "int f() { return "+s+"; }", body(stmt(api.Return, e)))
		check(t, "int f() { int x = "+s+"; }", body(api.Stmt{Kind: api.Let, Type: api.Int, Name: "x", Args: []api.Expr{e}}))
		check(t, "int f() { x = "+s+"; }", body(api.Stmt{Kind: api.Set, Name: "x", Args: []api.Expr{e}}))
		check(t, "int f() { a["+s+"] = x; }", body(api.Stmt{Kind: api.Put, Name: "a", Args: []api.Expr{e, x}}))
		check(t, "int f() { a[x] = "+s+"; }", body(api.Stmt{Kind: api.Put, Name: "a", Args: []api.Expr{x, e}}))
		check(t, "int f() { print("+s+"); }", body(stmt(api.Print, e)))
		check(t, "int f() { g("+s+", x); }", body(stmt(api.Do, call("g", e, x))))
		check(t, "int f() { g(x, "+s+"); }", body(stmt(api.Do, call("g", x, e))))
		check(t, "int f() { if ("+s+") {} while ("+s+") {} }", body(stmt(api.If, e), stmt(api.While, e)))
		check(t, "int f() { return "+s+" - "+s+"; }", body(stmt(api.Return, two(api.Sub, e, e))))
		check(t, "int f() { return !"+s+"; }", body(stmt(api.Return, one(api.Not, e))))
		check(t, "int f() { return ("+s+"); }", body(stmt(api.Return, e)))
		check(t, "int f() { return g(a["+s+"], i32("+s+")); }", body(stmt(api.Return, call("g", index("a", e), one(api.I32, e)))))
	}
}

// row is an operator with two operands.
type row struct {
	sign      string
	op, level int
}

var rows = []row{
	{"+", api.Add, 9}, {"-", api.Sub, 9}, {"*", api.Mul, 10}, {"/", api.Div, 10}, {"%", api.Rem, 10},
	{"&", api.And, 5}, {"|", api.Or, 3}, {"^", api.Xor, 4}, {"<<", api.Shl, 8}, {">>", api.Shr, 8}, {">>>", api.Ushr, 8},
	{"<", api.Lt, 7}, {"<=", api.Le, 7}, {">", api.Gt, 7}, {">=", api.Ge, 7}, {"==", api.Eq, 6}, {"!=", api.Ne, 6}, {"&&", api.Both, 2}, {"||", api.Either, 1},
}

func TestD1Operators(t *testing.T) {
	x, y, z := variable("x"), variable("y"), variable("z")
	for _, a := range rows {
		check(t, "int f() { return x "+a.sign+" y; }", body(stmt(api.Return, two(a.op, x, y))))
		check(t, "int f() { return x"+a.sign+"-y; }", body(stmt(api.Return, two(a.op, x, one(api.Neg, y)))))
		check(t, "int f() { return -x"+a.sign+"y; }", body(stmt(api.Return, two(a.op, one(api.Neg, x), y))))
		for _, b := range rows {
			left, right := two(b.op, two(a.op, x, y), z), two(a.op, x, two(b.op, y, z))
			want := left
			if b.level > a.level {
				want = right
			}
			check(t, "int f() { return x "+a.sign+" y "+b.sign+" z; }", body(stmt(api.Return, want)))
			check(t, "int f() { return (x "+a.sign+" y) "+b.sign+" z; }", body(stmt(api.Return, left)))
			check(t, "int f() { return x "+a.sign+" (y "+b.sign+" z); }", body(stmt(api.Return, right)))
		}
	}
}

// chain is the expression of operands with operators between: the last of the
// operators of the lowest level divides it.
func chain(operands []api.Expr, ops []row) api.Expr {
	if len(ops) == 0 {
		return operands[0]
	}
	at := 0
	for i, r := range ops {
		if r.level <= ops[at].level {
			at = i
		}
	}
	return two(ops[at].op, chain(operands[:at+1], ops[:at]), chain(operands[at+1:], ops[at+1:]))
}

func TestD1Chains(t *testing.T) {
	r := rand.New(rand.NewSource(1))
	for range 5000 {
		operands, s := []api.Expr{num(0)}, "0"
		var ops []row
		for i := range r.Intn(12) {
			op := rows[r.Intn(len(rows))]
			ops, operands = append(ops, op), append(operands, num(i+1))
			s += op.sign + strconv.Itoa(i+1)
		}
		check(t, "int f() { return "+s+"; }", body(stmt(api.Return, chain(operands, ops))))
	}
}

func TestExample(t *testing.T) {
	check(t, "int main() { return 1 + 2 * 3; }", api.Prog{Funcs: []api.Func{
		{Name: "main", Type: api.Int, Body: []api.Stmt{stmt(api.Return, two(api.Add, num(1), two(api.Mul, num(2), num(3))))}},
	}})
}
