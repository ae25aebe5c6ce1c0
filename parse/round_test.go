package parse_test

import (
	"math"
	"math/rand"
	"reflect"
	"strings"
	"testing"

	"boxhedge/api"
	"boxhedge/parse"
	"boxhedge/token"
	"boxhedge/tree"
)

// randomName is a valid name, now and then a long one.
func randomName(r *rand.Rand) string {
	l := []string{"a", "b", "x1", "_", "i8x", "If", "abcdefghijklmnopqrst"}
	return l[r.Intn(len(l))]
}

// randomExpr is a valid expression of at most this depth.
func randomExpr(r *rand.Rand, depth int) api.Expr {
	if depth == 1 || r.Intn(4) == 0 {
		leaves := []api.Expr{num(0), num(int(r.Uint64() >> (1 + r.Intn(63)))), num(math.MaxInt), truth(0), truth(1), reads(), variable(randomName(r)), call(randomName(r))}
		return leaves[r.Intn(len(leaves))]
	}
	inner := func() api.Expr { return randomExpr(r, depth-1) }
	switch r.Intn(8) {
	case 0, 1:
		return one(api.Neg+r.Intn(9), inner())
	case 2:
		return index(randomName(r), inner())
	case 3:
		return randomCall(r, depth)
	}
	return two(rows[r.Intn(len(rows))].op, inner(), inner())
}

func randomCall(r *rand.Rand, depth int) api.Expr {
	e := call(randomName(r))
	for range r.Intn(9) / (1 + r.Intn(4)) {
		e.Args = append(e.Args, randomExpr(r, depth-1))
	}
	return e
}

func randomStmts(r *rand.Rand, depth int) []api.Stmt {
	var l []api.Stmt
	for range min(depth, r.Intn(4)) {
		l = append(l, randomStmt(r, depth))
	}
	return l
}

func randomStmt(r *rand.Rand, depth int) api.Stmt {
	e, name := randomExpr(r, 5), randomName(r)
	switch kind := 1 + r.Intn(10); kind {
	case api.Let:
		return api.Stmt{Kind: kind, Type: 1 + r.Intn(2), Name: name, Args: []api.Expr{e}}
	case api.Set:
		return api.Stmt{Kind: kind, Name: name, Args: []api.Expr{e}}
	case api.Put:
		return api.Stmt{Kind: kind, Name: name, Args: []api.Expr{e, randomExpr(r, 4)}}
	case api.If:
		return api.Stmt{Kind: kind, Args: []api.Expr{e}, Then: randomStmts(r, depth-1), Else: randomStmts(r, depth-1)}
	case api.While:
		return api.Stmt{Kind: kind, Args: []api.Expr{e}, Then: randomStmts(r, depth-1)}
	case api.Do:
		return stmt(kind, randomCall(r, 4))
	case api.Return, api.Print:
		return stmt(kind, e)
	default:
		return stmt(kind)
	}
}

func randomProg(r *rand.Rand) api.Prog {
	var p api.Prog
	for range r.Intn(3) {
		p.Arrays = append(p.Arrays, api.Array{Name: randomName(r), Size: 1 + r.Intn(1000)})
	}
	for range r.Intn(4) {
		f := api.Func{Name: randomName(r), Type: 1 + r.Intn(2), Body: randomStmts(r, 5)}
		for range r.Intn(9) {
			f.Params = append(f.Params, api.Param{Name: randomName(r), Type: 1 + r.Intn(2)})
		}
		p.Funcs = append(p.Funcs, f)
	}
	return p
}

// printed is the text of a program that must be valid.
func printed(t *testing.T, p api.Prog) string {
	t.Helper()
	s, e := tree.Print(p)
	if e != api.OK {
		t.Fatalf("D2: Print has the error %d for %+v", e, p)
	}
	return s
}

// TestD2Undoes: what Print writes of a valid program is parsed to it.
func TestD2Undoes(t *testing.T) {
	r := rand.New(rand.NewSource(5))
	size := 0
	for range 3000 {
		p := randomProg(r)
		s := printed(t, p)
		size += len(s)
		if q := parsed(t, s); !reflect.DeepEqual(p, q) {
			t.Fatalf("D2: %s\nis parsed to\n%s", s, printed(t, q))
		}
	}
	if size < 3000*200 {
		t.Errorf("the programs amount to %d bytes: the test says little", size)
	}
}

// deepProgs are programs that are as deep as may be.
func deepProgs() []api.Prog {
	x, brk := variable("x"), stmt(api.Break)
	exprs := []api.Expr{x, x, x, x, x, x, x, x}
	for range 99 {
		exprs = []api.Expr{
			one(api.Neg, exprs[0]), one(api.Not, exprs[1]), one(api.U8, exprs[2]), two(api.Sub, exprs[3], x), two(api.Sub, x, exprs[4]),
			index("a", exprs[5]), call("f", x, exprs[6]), two(api.Mul, two(api.Add, x, x), x),
		}
	}
	stmts := []api.Stmt{brk, brk, brk}
	for range 99 {
		stmts = []api.Stmt{
			{Kind: api.If, Args: []api.Expr{x}, Then: []api.Stmt{stmts[0]}},
			{Kind: api.If, Args: exprs[:1], Else: []api.Stmt{brk, stmts[1]}},
			{Kind: api.While, Args: exprs[4:5], Then: []api.Stmt{brk, stmts[2], brk}},
		}
	}
	var l []api.Prog
	for _, e := range exprs {
		l = append(l, body(stmt(api.Return, e)), body(stmt(api.Print, e), api.Stmt{Kind: api.Put, Name: "a", Args: []api.Expr{e, e}}))
	}
	l = append(l, body(stmt(api.Do, exprs[6])))
	for _, s := range stmts {
		l = append(l, body(s))
	}
	return l
}

func TestD2UndoesDeep(t *testing.T) {
	for i, p := range deepProgs() {
		s := printed(t, p)
		if len(s) > api.MaxText {
			t.Fatalf("deep program %d has %d bytes", i, len(s))
		}
		if q := parsed(t, s); !reflect.DeepEqual(p, q) {
			t.Errorf("D2: deep program %d is parsed to\n%s", i, short(printed(t, q)))
		}
	}
}

// TestD2Limit: a text of as many bytes as may be.
func TestD2Limit(t *testing.T) {
	p := body()
	s := printed(t, p)
	for len(s) < api.MaxText-20 {
		p.Funcs = append(p.Funcs, p.Funcs[0])
		s += printed(t, body())
	}
	p.Arrays = []api.Array{{Name: "a", Size: 1}}
	s = printed(t, p)
	for len(s) < api.MaxText {
		p.Arrays[0].Name += "b"
		s = printed(t, p)
	}
	if len(s) != api.MaxText {
		t.Fatalf("the text has %d bytes", len(s))
	}
	if q := parsed(t, s); !reflect.DeepEqual(p, q) {
		t.Errorf("D2: a text of %d bytes", len(s))
	}
	p.Arrays[0].Name += "b"
	checkFault(t, printed(t, p), api.ErrLong, 0)
}

// randomGap is what may stand between tokens.
func randomGap(r *rand.Rand) string {
	s := ""
	for range r.Intn(4) {
		s += []string{" ", "\t", "\n", "\r", "// ; } {\n", "//\n", "  ", "\r\n", "// // \x00\xff\u00e9 int\n"}[r.Intn(9)]
	}
	return s
}

// wordy tells whether names and numbers may have a byte in them.
func wordy(c byte) bool {
	return token.Name("x" + string([]byte{c}))
}

// apart are tokens with random gaps between; there is one wherever two tokens,
// or one and a comment, might be taken for something else.
func apart(r *rand.Rand, l []api.Token) string {
	b := []byte(randomGap(r))
	for _, x := range l[:len(l)-1] {
		if len(b) > 0 && wordy(b[len(b)-1]) == wordy(x.Text[0]) {
			b = append(b, " \n\t\r"[r.Intn(4)])
		}
		b = append(b, x.Text...)
		if x.Text == "/" {
			b = append(b, ' ')
		}
		b = append(b, randomGap(r)...)
	}
	if r.Intn(2) == 0 {
		b = append(b, " // the end"...)
	}
	return string(b)
}

// TestD2Blanks: blanks and comments make no difference.
func TestD2Blanks(t *testing.T) {
	r := rand.New(rand.NewSource(6))
	progs := deepProgs()
	for range 500 {
		progs = append(progs, randomProg(r))
	}
	for _, p := range progs {
		l, e, _ := token.Tokens(printed(t, p))
		if e != api.OK {
			t.Fatalf("D2: the text has no tokens: %d", e)
		}
		for range 3 {
			s := apart(r, l)
			if len(s) > api.MaxText {
				continue
			}
			if q := parsed(t, s); !reflect.DeepEqual(p, q) {
				t.Fatalf("D2: %s is parsed to\n%s", short(s), short(printed(t, q)))
			}
		}
	}
}

// TestD2Again: the text that is printed of a parsed program is parsed to it.
func TestD2Again(t *testing.T) {
	r := rand.New(rand.NewSource(7))
	for range 3000 {
		left := 10 + r.Intn(200)
		p, e, _ := parse.Parse(strings.Join(derive(r, "Program", &left), " "))
		if e != api.OK {
			continue
		}
		if q := parsed(t, printed(t, p)); !reflect.DeepEqual(p, q) {
			t.Fatalf("D2: %s\nis parsed to\n%s", printed(t, p), printed(t, q))
		}
	}
}

// TestR4Again: an answer hangs on the text alone, not on earlier calls or on
// what was done with their answers.
func TestR4Again(t *testing.T) {
	s := "int a[4]; int f(int x) { if (x) { a[x] = 1; } else { g(x, 1 + 2); } return -x; }"
	want := printed(t, parsed(t, s))
	p := parsed(t, s)
	p.Arrays[0].Size, p.Funcs[0].Params[0].Name = 9, "y"
	p.Funcs[0].Body[0].Then[0].Args[0] = num(3)
	p.Funcs[0].Body[1] = stmt(api.Break)
	parse.Parse("int f() { } }")
	if got := printed(t, parsed(t, s)); got != want {
		t.Errorf("R4: %s, then %s", want, got)
	}
}

// TestR1Any: texts of any bytes and of any length are answered.
func TestR1Any(t *testing.T) {
	for _, s := range []string{"(", "-", "{", "int f(){", "1+", "f(", "a[", "if(1){", "int f(){return 1+", "int x", ",", "!~-", "int f(){}", "int a[1];", "//", "\n", "x", "0", " "} {
		for _, start := range []string{"", "int f(){return ", "int f(){", "int f("} {
			text := start + strings.Repeat(s, api.MaxText+1)
			for _, n := range []int{1000, api.MaxText, api.MaxText + 1} {
				if p, e, line := parse.Parse(text[:n]); e != api.OK && (p.Arrays != nil || p.Funcs != nil) || e == api.OK && line != 0 {
					t.Errorf("R1: Parse(%s) has the error %d, the line %d and a program", short(text), e, line)
				}
			}
		}
	}
	r := rand.New(rand.NewSource(8))
	for range 20000 {
		b := make([]byte, r.Intn(30))
		r.Read(b)
		s := string(b)
		if _, e, _ := parse.Parse(s); e == api.OK && strings.TrimLeft(s, " \t\r\n") != "" && !strings.Contains(s, "//") {
			t.Errorf("D1: %q is a program", s)
		}
	}
}
