package tree_test

import (
	"math"
	"math/rand"
	"reflect"
	"strconv"
	"strings"
	"testing"

	"boxhedge/api"
	"boxhedge/token"
	"boxhedge/tree"
)

// printed is Print of a program that must be valid.
func printed(t *testing.T, p api.Prog) string {
	t.Helper()
	s, e := tree.Print(p)
	if e != api.OK {
		t.Fatalf("C2: Print returns %d for %+v", e, p)
	}
	return s
}

// textOf is how Print writes an expression.
func textOf(t *testing.T, e api.Expr) string {
	t.Helper()
	s := printed(t, returns(e))
	s, begun := strings.CutPrefix(s, "int f() {\n\treturn ")
	s, ended := strings.CutSuffix(s, ";\n}\n")
	if !begun || !ended {
		t.Fatalf("C2: a return is written as %q", s)
	}
	return s
}

func TestC2Heads(t *testing.T) {
	for want, p := range map[string]api.Prog{
		"":               {},
		"int a[1];\n":    {Arrays: []api.Array{{Name: "a", Size: 1}}},
		"int f() {\n}\n": {Funcs: []api.Func{{Name: "f", Type: api.Int}}},
		"int b[1000];\nint a[42];\nbool g(int x) {\n}\nint main() {\n}\n": {
			Arrays: []api.Array{{Name: "b", Size: 1000}, {Name: "a", Size: 42}},
			Funcs:  []api.Func{{Name: "g", Type: api.Bool, Params: []api.Param{{Name: "x", Type: api.Int}}}, {Name: "main", Type: api.Int}},
		},
		"int f(bool y, int x, int _) {\n}\n": {
			Funcs: []api.Func{{Name: "f", Type: api.Int, Params: []api.Param{{Name: "y", Type: api.Bool}, {Name: "x", Type: api.Int}, {Name: "_", Type: api.Int}}}},
		},
	} {
		if s := printed(t, p); s != want {
			t.Errorf("C2: %q, want %q", s, want)
		}
	}
}

func TestC2Stmts(t *testing.T) {
	x := []api.Expr{variable("x")}
	end := []api.Stmt{stmt(api.Break)}
	more := []api.Stmt{stmt(api.Continue), stmt(api.Print, num(1))}
	for want, s := range map[string]api.Stmt{
		"\tint z = x;\n":                {Kind: api.Let, Type: api.Int, Name: "z", Args: x},
		"\tbool z = x;\n":               {Kind: api.Let, Type: api.Bool, Name: "z", Args: x},
		"\tz = x;\n":                    {Kind: api.Set, Name: "z", Args: x},
		"\ta[1 + 2] = -x;\n":            {Kind: api.Put, Name: "a", Args: []api.Expr{two(api.Add, num(1), num(2)), one(api.Neg, x[0])}},
		"\tbreak;\n":                    stmt(api.Break),
		"\tcontinue;\n":                 stmt(api.Continue),
		"\treturn x;\n":                 stmt(api.Return, x...),
		"\treturn x + 1;\n":             stmt(api.Return, two(api.Add, x[0], num(1))),
		"\tprint(x);\n":                 stmt(api.Print, x...),
		"\tprint((x + 1) * 2);\n":       stmt(api.Print, two(api.Mul, two(api.Add, x[0], num(1)), num(2))),
		"\tg();\n":                      stmt(api.Do, call("g")),
		"\tg(x, 1);\n":                  stmt(api.Do, call("g", x[0], num(1))),
		"\tif (x) {\n\t}\n":             {Kind: api.If, Args: x},
		"\tif (x) {\n\t\tbreak;\n\t}\n": {Kind: api.If, Args: x, Then: end, Else: []api.Stmt{}},
		"\tif (x) {\n\t} else {\n\t\tbreak;\n\t}\n":                                                          {Kind: api.If, Args: x, Else: end},
		"\tif (x) {\n\t\tbreak;\n\t} else {\n\t\tcontinue;\n\t\tprint(1);\n\t}\n":                            {Kind: api.If, Args: x, Then: end, Else: more},
		"\twhile (x < 1) {\n\t}\n":                                                                           {Kind: api.While, Args: []api.Expr{two(api.Lt, x[0], num(1))}},
		"\twhile (x) {\n\t\tcontinue;\n\t\tprint(1);\n\t}\n":                                                 {Kind: api.While, Args: x, Then: more},
		"\tif (x) {\n\t} else {\n\t\tif (x) {\n\t\t\tbreak;\n\t\t} else {\n\t\t\tbreak;\n\t\t}\n\t}\n":       {Kind: api.If, Args: x, Else: []api.Stmt{{Kind: api.If, Args: x, Then: end, Else: end}}},
		"\twhile (x) {\n\t\twhile (x) {\n\t\t\tif (x) {\n\t\t\t}\n\t\t\tbreak;\n\t\t}\n\t\tcontinue;\n\t}\n": {Kind: api.While, Args: x, Then: []api.Stmt{{Kind: api.While, Args: x, Then: []api.Stmt{{Kind: api.If, Args: x}, stmt(api.Break)}}, stmt(api.Continue)}},
	} {
		if s := printed(t, body(s)); s != "int f() {\n"+want+"}\n" {
			t.Errorf("C2: %q, want the lines %q", s, want)
		}
	}
}

// TestC2Order: statements, functions and arrays stand in their order, and no
// line is changed by what is before it.
func TestC2Order(t *testing.T) {
	l := []api.Stmt{stmt(api.Print, num(1)), {Kind: api.While, Args: []api.Expr{num(2)}, Then: []api.Stmt{stmt(api.Break)}}, stmt(api.Print, num(3))}
	p := api.Prog{Funcs: []api.Func{{Name: "g", Type: api.Int, Body: l}, {Name: "f", Type: api.Bool, Body: l[:1]}}}
	want := "int g() {\n\tprint(1);\n\twhile (2) {\n\t\tbreak;\n\t}\n\tprint(3);\n}\nbool f() {\n\tprint(1);\n}\n"
	if s := printed(t, p); s != want {
		t.Errorf("C2: %q, want %q", s, want)
	}
}

// TestC2Tabs: each line is as many tabs in as it is nested, up to the limit.
func TestC2Tabs(t *testing.T) {
	for i, s := range deepStmts(100) {
		lines := strings.Split(strings.TrimSuffix(printed(t, body(s)), "\n"), "\n")
		depth, deepest := 0, 0
		for _, line := range lines {
			words := strings.TrimLeft(line, "\t")
			if words[0] == '}' {
				depth--
			}
			if len(line)-len(words) != depth {
				t.Fatalf("C2: deep statement %d: %q is not %d tabs in", i, line, depth)
			}
			deepest = max(deepest, depth)
			if words[len(words)-1] == '{' {
				depth++
			}
		}
		if deepest != 100 || depth != 0 {
			t.Errorf("C2: deep statement %d: %d tabs at most, %d at the end", i, deepest, depth)
		}
	}
}

func TestC3Plain(t *testing.T) {
	x := variable("x")
	sum := two(api.Add, x, num(1))
	for _, c := range []struct {
		want string
		e    api.Expr
	}{
		{"0", num(0)}, {"1", num(1)}, {"10", num(10)}, {"1234567890", num(1234567890)}, {"9223372036854775807", num(math.MaxInt)},
		{"true", api.Expr{Kind: api.Truth, N: 1}}, {"false", api.Expr{Kind: api.Truth}},
		{"x", x}, {"_a9", variable("_a9")},
		{"-x", one(api.Neg, x)}, {"~x", one(api.Inv, x)}, {"!x", one(api.Not, x)},
		{"-1", one(api.Neg, num(1))}, {"--1", one(api.Neg, one(api.Neg, num(1)))}, {"!~-x", one(api.Not, one(api.Inv, one(api.Neg, x)))},
		{"-(x + 1)", one(api.Neg, sum)}, {"!(x + 1)", one(api.Not, sum)}, {"-(x * 1)", one(api.Neg, two(api.Mul, x, num(1)))},
		{"-a[x]", one(api.Neg, index("a", x))}, {"-f(x)", one(api.Neg, call("f", x))}, {"-read()", one(api.Neg, api.Expr{Kind: api.Read})}, {"-i8(x)", one(api.Neg, one(api.I8, x))},
		{"i8(x)", one(api.I8, x)}, {"i16(x)", one(api.I16, x)}, {"i32(x)", one(api.I32, x)}, {"u8(x)", one(api.U8, x)}, {"u16(x)", one(api.U16, x)}, {"u32(x)", one(api.U32, x)},
		{"u8(x + 1)", one(api.U8, sum)}, {"u8(-x)", one(api.U8, one(api.Neg, x))}, {"u8(i8(x))", one(api.U8, one(api.I8, x))}, {"u8(x || x)", one(api.U8, two(api.Either, x, x))},
		{"a[x]", index("a", x)}, {"a[x + 1]", index("a", sum)}, {"a[x || x]", index("a", two(api.Either, x, x))}, {"a[a[x]]", index("a", index("a", x))},
		{"f()", call("f")}, {"f(x)", call("f", x)}, {"f(x, 1)", call("f", x, num(1))}, {"f(x + 1, x || x, f())", call("f", sum, two(api.Either, x, x), call("f"))},
		{"f(1, 2, 3, 4, 5, 6, 7, 8)", call("f", num(1), num(2), num(3), num(4), num(5), num(6), num(7), num(8))},
		{"read()", api.Expr{Kind: api.Read}},
		{"-x + -1", two(api.Add, one(api.Neg, x), one(api.Neg, num(1)))}, {"x - -1", two(api.Sub, x, one(api.Neg, num(1)))}, {"a[1] * f()", two(api.Mul, index("a", num(1)), call("f"))},
	} {
		if s := textOf(t, c.e); s != c.want {
			t.Errorf("C3: %q, want %q", s, c.want)
		}
	}
}

// levels are the operators with two operands, in the order of their symbols.
var levels = map[int]struct {
	sign  string
	level int
}{
	api.Add: {"+", 9}, api.Sub: {"-", 9}, api.Mul: {"*", 10}, api.Div: {"/", 10}, api.Rem: {"%", 10},
	api.And: {"&", 5}, api.Or: {"|", 3}, api.Xor: {"^", 4}, api.Shl: {"<<", 8}, api.Shr: {">>", 8}, api.Ushr: {">>>", 8},
	api.Lt: {"<", 7}, api.Le: {"<=", 7}, api.Gt: {">", 7}, api.Ge: {">=", 7}, api.Eq: {"==", 6}, api.Ne: {"!=", 6}, api.Both: {"&&", 2}, api.Either: {"||", 1},
}

// TestC3Levels: all operators in one another, on both sides.
func TestC3Levels(t *testing.T) {
	x, y, z := variable("x"), variable("y"), variable("z")
	for a, outer := range levels {
		if s, want := textOf(t, two(a, x, y)), "x "+outer.sign+" y"; s != want {
			t.Errorf("C3: %q, want %q", s, want)
		}
		for b, inner := range levels {
			left, right := "x "+inner.sign+" y", "y "+inner.sign+" z"
			if inner.level < outer.level {
				left = "(" + left + ")"
			}
			if inner.level <= outer.level {
				right = "(" + right + ")"
			}
			if s, want := textOf(t, two(a, two(b, x, y), z)), left+" "+outer.sign+" z"; s != want {
				t.Errorf("C3: %q, want %q", s, want)
			}
			if s, want := textOf(t, two(a, x, two(b, y, z))), "x "+outer.sign+" "+right; s != want {
				t.Errorf("C3: %q, want %q", s, want)
			}
		}
		for op, sign := range map[int]string{api.Neg: "-", api.Inv: "~", api.Not: "!"} {
			if s, want := textOf(t, one(op, two(a, x, y))), sign+"(x "+outer.sign+" y)"; s != want {
				t.Errorf("C3: %q, want %q", s, want)
			}
			if s, want := textOf(t, two(a, one(op, x), one(op, y))), sign+"x "+outer.sign+" "+sign+"y"; s != want {
				t.Errorf("C3: %q, want %q", s, want)
			}
		}
	}
}

// TestC3Chains: operators of one level group from the left.
func TestC3Chains(t *testing.T) {
	left, right := num(0), num(0)
	wantLeft, wantRight := "0", "0"
	for i := 1; i < 100; i++ {
		left, right = two(api.Sub, left, num(i)), two(api.Sub, num(i), right)
		wantLeft += " - " + strconv.Itoa(i)
		if i > 1 {
			wantRight = "(" + wantRight + ")"
		}
		wantRight = strconv.Itoa(i) + " - " + wantRight
	}
	if s := textOf(t, left); s != wantLeft {
		t.Errorf("C3: %q, want %q", s, wantLeft)
	}
	if s := textOf(t, right); s != wantRight {
		t.Errorf("C3: %q, want %q", s, wantRight)
	}
}

func TestExample(t *testing.T) {
	s := printed(t, body(api.Stmt{Kind: api.Set, Name: "x", Args: []api.Expr{two(api.Mul, two(api.Add, num(1), num(2)), one(api.Neg, variable("y")))}}))
	if want := "int f() {\n\tx = (1 + 2) * -y;\n}\n"; s != want {
		t.Errorf("%q, want %q", s, want)
	}
}

// TestC2Wrong: of what is not valid nothing is written.
func TestC2Wrong(t *testing.T) {
	good := body(stmt(api.Print, num(1)))
	for i, p := range []api.Prog{
		{Arrays: []api.Array{{Name: "a"}}}, {Arrays: []api.Array{{Size: 1}}}, {Funcs: []api.Func{{Name: "f"}}}, {Funcs: []api.Func{{Type: api.Int}}},
		{Funcs: append(good.Funcs[:1:1], api.Func{})}, {Arrays: []api.Array{{Name: "a", Size: 1}, {}}, Funcs: good.Funcs},
		body(api.Stmt{}), body(stmt(api.Print, num(1)), stmt(api.Print)), returns(api.Expr{}), returns(num(-1)), returns(deepExprs(101)[0]), body(deepStmts(101)[0]),
	} {
		if s, e := tree.Print(p); s != "" || e != api.ErrArg {
			t.Errorf("C2: wrong program %d: %q, %d", i, s, e)
		}
	}
}

// randomName is a valid name, now and then a long one.
func randomName(r *rand.Rand) string {
	l := []string{"a", "b", "x1", "_", "i8x", "If", "abcdefghijklmnopqrst"}
	return l[r.Intn(len(l))]
}

// randomExpr is a valid expression of at most this depth.
func randomExpr(r *rand.Rand, depth int) api.Expr {
	if depth == 1 || r.Intn(4) == 0 {
		switch r.Intn(4) {
		case 0:
			return num(int(r.Uint64() >> (1 + r.Intn(63))))
		case 1:
			return api.Expr{Kind: api.Truth, N: r.Intn(2)}
		case 2:
			return api.Expr{Kind: api.Read}
		}
		return variable(randomName(r))
	}
	inner := func() api.Expr { return randomExpr(r, depth-1) }
	switch r.Intn(8) {
	case 0, 1:
		return one(ones[r.Intn(len(ones))], inner())
	case 2:
		return index(randomName(r), inner())
	case 3:
		return randomCall(r, depth)
	}
	return two(twos[r.Intn(len(twos))], inner(), inner())
}

func randomCall(r *rand.Rand, depth int) api.Expr {
	e := call(randomName(r))
	for range r.Intn(4) {
		e.Args = append(e.Args, randomExpr(r, depth-1))
	}
	return e
}

func randomStmts(r *rand.Rand, depth int) []api.Stmt {
	if depth == 0 {
		return nil
	}
	var l []api.Stmt
	for range r.Intn(4) {
		l = append(l, randomStmt(r, depth))
	}
	return l
}

func randomStmt(r *rand.Rand, depth int) api.Stmt {
	e, name := randomExpr(r, 5), randomName(r)
	switch kind := 1 + r.Intn(10); kind {
	case api.Let:
		return api.Stmt{Kind: kind, Type: 1 + r.Intn(2), Name: name, Args: []api.Expr{e}}
	case api.Set:
		return api.Stmt{Kind: kind, Name: name, Args: []api.Expr{e}}
	case api.Put:
		return api.Stmt{Kind: kind, Name: name, Args: []api.Expr{e, randomExpr(r, 4)}}
	case api.If:
		return api.Stmt{Kind: kind, Args: []api.Expr{e}, Then: randomStmts(r, depth-1), Else: randomStmts(r, depth-1)}
	case api.While:
		return api.Stmt{Kind: kind, Args: []api.Expr{e}, Then: randomStmts(r, depth-1)}
	case api.Do:
		return stmt(kind, randomCall(r, 4))
	case api.Return, api.Print:
		return stmt(kind, e)
	default:
		return stmt(kind)
	}
}

func randomProg(r *rand.Rand) api.Prog {
	var p api.Prog
	for range r.Intn(3) {
		p.Arrays = append(p.Arrays, api.Array{Name: randomName(r), Size: 1 + r.Intn(1000)})
	}
	for range r.Intn(4) {
		f := api.Func{Name: randomName(r), Type: 1 + r.Intn(2), Body: randomStmts(r, 5)}
		for range r.Intn(9) {
			f.Params = append(f.Params, api.Param{Name: randomName(r), Type: 1 + r.Intn(2)})
		}
		p.Funcs = append(p.Funcs, f)
	}
	return p
}

// reader reads what Print writes: a program that it reads back from a text is
// the only one with that text. It panics where it meets anything else.
type reader struct{ rest []api.Token }

func (r *reader) next() string {
	s := r.rest[0].Text
	r.rest = r.rest[1:]
	return s
}

func (r *reader) sees(s string) bool { return r.rest[0].Text == s }

func (r *reader) take(s string) bool {
	if !r.sees(s) {
		return false
	}
	r.next()
	return true
}

func (r *reader) want(l ...string) {
	for _, s := range l {
		if !r.take(s) {
			panic("no " + s + " but " + r.rest[0].Text)
		}
	}
}

func (r *reader) number() int {
	n, err := strconv.Atoi(r.next())
	if err != nil {
		panic(err)
	}
	return n
}

func (r *reader) kind() int {
	if r.take("bool") {
		return api.Bool
	}
	r.want("int")
	return api.Int
}

func (r *reader) prog() api.Prog {
	var p api.Prog
	for !r.sees("") {
		kind, name := r.kind(), r.next()
		if r.take("[") {
			p.Arrays = append(p.Arrays, api.Array{Name: name, Size: r.number()})
			r.want("]", ";")
			continue
		}
		f := api.Func{Name: name, Type: kind}
		for r.want("("); !r.take(")"); r.take(",") {
			kind := r.kind()
			f.Params = append(f.Params, api.Param{Name: r.next(), Type: kind})
		}
		f.Body = r.block()
		p.Funcs = append(p.Funcs, f)
	}
	return p
}

func (r *reader) block() []api.Stmt {
	var l []api.Stmt
	for r.want("{"); !r.take("}"); {
		l = append(l, r.stmt())
	}
	return l
}

func (r *reader) stmt() api.Stmt {
	var s api.Stmt
	switch {
	case r.sees("int"), r.sees("bool"):
		s = api.Stmt{Kind: api.Let, Type: r.kind(), Name: r.next()}
		r.want("=")
		s.Args = []api.Expr{r.expr(1)}
	case r.take("if"):
		s = stmt(api.If, r.expr(11))
		s.Then = r.block()
		if r.take("else") {
			s.Else = r.block()
		}
		return s
	case r.take("while"):
		s = stmt(api.While, r.expr(11))
		s.Then = r.block()
		return s
	case r.take("break"):
		s = stmt(api.Break)
	case r.take("continue"):
		s = stmt(api.Continue)
	case r.take("return"):
		s = stmt(api.Return, r.expr(1))
	case r.take("print"):
		s = stmt(api.Print, r.expr(11))
	default:
		s = r.named()
	}
	r.want(";")
	return s
}

// named is a statement that begins with a name.
func (r *reader) named() api.Stmt {
	e := r.expr(11)
	if e.Kind == api.Call {
		return stmt(api.Do, e)
	}
	r.want("=")
	if e.Kind == api.Index {
		return api.Stmt{Kind: api.Put, Name: e.Name, Args: append(e.Args, r.expr(1))}
	}
	return api.Stmt{Kind: api.Set, Name: e.Name, Args: []api.Expr{r.expr(1)}}
}

// expr is an expression whose operators outside of brackets are of the level or
// of higher ones.
func (r *reader) expr(level int) api.Expr {
	if level == 11 {
		return r.tight()
	}
	e := r.expr(level + 1)
	for op := r.operator(level); op > 0; op = r.operator(level) {
		e = two(op, e, r.expr(level+1))
	}
	return e
}

func (r *reader) operator(level int) int {
	for op, x := range levels {
		if x.level == level && r.take(x.sign) {
			return op
		}
	}
	return 0
}

func (r *reader) tight() api.Expr {
	s := r.next()
	signs := map[string]int{"-": api.Neg, "~": api.Inv, "!": api.Not, "i8": api.I8, "i16": api.I16, "i32": api.I32, "u8": api.U8, "u16": api.U16, "u32": api.U32}
	if op := signs[s]; op > 0 {
		return one(op, r.tight())
	}
	switch {
	case s == "(":
		e := r.expr(1)
		r.want(")")
		return e
	case s == "true" || s == "false":
		return api.Expr{Kind: api.Truth, N: len("false") - len(s)}
	case s == "read":
		r.want("(", ")")
		return api.Expr{Kind: api.Read}
	case s[0] >= '0' && s[0] <= '9':
		n, _ := strconv.Atoi(s)
		return num(n)
	case r.take("["):
		e := index(s, r.expr(1))
		r.want("]")
		return e
	case r.take("("):
		e := call(s)
		for !r.take(")") {
			e.Args = append(e.Args, r.expr(1))
			r.take(",")
		}
		return e
	}
	return variable(s)
}

// readBack is the program of a text of Print.
func readBack(t *testing.T, s string) api.Prog {
	t.Helper()
	l, e, line := token.Tokens(s)
	if e != api.OK {
		t.Fatalf("C4: no tokens, %d on line %d: %s", e, line, s)
	}
	r := reader{l}
	return r.prog()
}

// TestC4ReadBack: a text says which program it is of.
func TestC4ReadBack(t *testing.T) {
	r := rand.New(rand.NewSource(1))
	size := 0
	for range 3000 {
		p := randomProg(r)
		s := printed(t, p)
		size += len(s)
		if len(s) > api.MaxText {
			continue
		}
		if q := readBack(t, s); !reflect.DeepEqual(p, q) {
			t.Fatalf("C4: %s\nis read back as\n%s", s, printed(t, q))
		}
	}
	if size < 3000*100 {
		t.Errorf("the programs amount to %d bytes: the test says little", size)
	}
}

// TestC4DeepReadBack: so do texts of programs as deep as may be.
func TestC4DeepReadBack(t *testing.T) {
	var l []api.Prog
	for _, e := range deepExprs(100) {
		l = append(l, returns(e))
	}
	for _, s := range deepStmts(100) {
		l = append(l, body(s))
	}
	for i, p := range l {
		if q := readBack(t, printed(t, p)); !reflect.DeepEqual(p, q) {
			t.Errorf("C4: deep program %d is read back as\n%s", i, printed(t, q))
		}
	}
}

// smallExprs are the expressions of at most this depth over one name and number,
// with an operator of each level.
func smallExprs(depth int) []api.Expr {
	l := []api.Expr{num(1), variable("x")}
	if depth == 1 {
		return l
	}
	inner := smallExprs(depth - 1)
	for _, a := range inner {
		l = append(l, one(api.Neg, a), one(api.U8, a), index("x", a), call("x", a))
		for _, b := range inner {
			l = append(l, two(api.Sub, a, b), two(api.Add, a, b), two(api.Mul, a, b), two(api.Either, a, b), call("x", a, b))
		}
	}
	return l
}

// TestC4Distinct: all small expressions have different texts.
func TestC4Distinct(t *testing.T) {
	seen := map[string]bool{}
	for _, e := range smallExprs(3) {
		s := textOf(t, e)
		if seen[s] {
			t.Fatalf("C4: two expressions have the text %q", s)
		}
		seen[s] = true
	}
	if len(seen) < 4000 {
		t.Errorf("there are but %d expressions", len(seen))
	}
}

// TestC2Shares: arguments, and what lies behind their ends, stay as they are.
func TestC2Shares(t *testing.T) {
	r := rand.New(rand.NewSource(2))
	for range 200 {
		p := randomProg(r)
		p.Funcs = append(p.Funcs, api.Func{Name: "behind"}, api.Func{Type: 7})
		p.Arrays = append(p.Arrays, api.Array{Name: "behind"})
		q := api.Prog{Arrays: p.Arrays[:len(p.Arrays)-1], Funcs: p.Funcs[:len(p.Funcs)-2]}
		before := printed(t, q)
		if !tree.Right(q) || p.Funcs[len(p.Funcs)-2].Name != "behind" || p.Funcs[len(p.Funcs)-1].Type != 7 || p.Arrays[len(p.Arrays)-1].Name != "behind" {
			t.Fatal("R3: what lies behind an argument is changed")
		}
		tree.Print(api.Prog{Arrays: []api.Array{{}}})
		if len(before) <= api.MaxText && !reflect.DeepEqual(readBack(t, before).Funcs, nilEmpty(q.Funcs)) {
			t.Fatal("R3: an argument is changed")
		}
		if again := printed(t, q); again != before {
			t.Fatalf("R4: %q, then %q", before, again)
		}
	}
}

// nilEmpty is l, nil if it is empty.
func nilEmpty(l []api.Func) []api.Func {
	if len(l) == 0 {
		return nil
	}
	return l
}

// TestC2Empty: an empty list is as good as none.
func TestC2Empty(t *testing.T) {
	x := []api.Expr{{Kind: api.Var, Name: "x", Args: []api.Expr{}}}
	p := body(api.Stmt{Kind: api.If, Args: x, Then: []api.Stmt{}, Else: []api.Stmt{}}, api.Stmt{Kind: api.Do, Args: []api.Expr{call("g", []api.Expr{}...)}, Then: []api.Stmt{}, Else: []api.Stmt{}})
	p.Arrays, p.Funcs[0].Params = []api.Array{}, []api.Param{}
	if s := printed(t, p); s != "int f() {\n\tif (x) {\n\t}\n\tg();\n}\n" {
		t.Errorf("C2: %q", s)
	}
}
