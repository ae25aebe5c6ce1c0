package eval_test

import (
	"math"
	"slices"
	"strconv"
	"strings"
	"testing"

	"boxhedge/api"
	"boxhedge/eval"
	"boxhedge/parse"
	"boxhedge/types"
)

func TestG1Fuel(t *testing.T) {
	p := program(t, "int main() { print(6 * 7); return 1 / 0; }")
	for fuel, want := range map[int]api.Run{
		math.MinInt: {},
		-1:          {},
		0:           {},
		1:           {},
		3:           {},
		4:           {Out: []int{42}, Cost: 2},
		7:           {Out: []int{42}, Cost: 2},
		8:           {Status: api.Zero, Out: []int{42}, Cost: 3},
		9:           {Status: api.Zero, Out: []int{42}, Cost: 3, Fuel: 1},
		math.MaxInt: {Status: api.Zero, Out: []int{42}, Cost: 3, Fuel: math.MaxInt - 8},
	} {
		if got := eval.Run(p, nil, fuel); !equal(got, want) {
			t.Errorf("G1: with %d Run has %v, want %v", fuel, got, want)
		}
	}
}

// TestG1Stops: programs without an end stop, at a cost and with what they have
// printed.
func TestG1Stops(t *testing.T) {
	for s, want := range map[string]api.Run{
		"int main() { }":                                                  {}, // it does not pass Check, and does not even begin
		"int main() { while (true) { } }":                                 {},
		"int main() { while (true) { continue; } }":                       {},
		"int main() { while (true) { if (false) { return 1; } } }":        {},
		"int main() { return main(); }":                                   {Cost: 50},
		"int main() { main(); return 0; }":                                {Cost: 50},
		"int f() { return f(); } int main() { return f(); }":              {Cost: 50},
		"int main() { int i = 0; while (true) { i = i - 1; print(i); } }": {Out: []int{-1, -2, -3, -4, -5, -6, -7, -8, -9, -10, -11, -12, -13}, Cost: 27},
	} {
		p, fault, line := parse.Parse(s)
		if fault != api.OK {
			t.Fatalf("%s: Parse has %d, %d", s, fault, line)
		}
		if got := eval.Run(p, nil, 100); !equal(got, want) {
			t.Errorf("G1: %s: Run has %v, want %v", s, got, want)
		}
	}
}

// TestG1Wrong: what does not pass Check is not run.
func TestG1Wrong(t *testing.T) {
	for s, fault := range map[string]api.Errno{
		"":                                       api.ErrName,
		"int f() { print(1); return 1; }":        api.ErrName,
		"bool main() { print(1); return true; }": api.ErrName,
		"int main(int x) { print(1); return 1; }":                    api.ErrName,
		"int a[1]; int a[1]; int main() { return 1; }":               api.ErrName,
		"int a[1]; int a() { return 2; } int main() { return 1; }":   api.ErrName,
		"int main() { return 1; } int main() { return 2; }":          api.ErrName,
		"int f(int x, int x) { return 1; } int main() { return 1; }": api.ErrName,
		"int main() { print(1); return x; }":                         api.ErrName,
		"int main() { print(1); x = 1; return 1; }":                  api.ErrName,
		"int main() { print(1); return 1; a[0] = 1; }":               api.ErrName,
		"int main() { print(1); return 1; f(); }":                    api.ErrName,
		"int main() { int x = 1; int x = 2; return x; }":             api.ErrName,
		"int main() { print(1); return 1; return true; }":            api.ErrType,
		"int main() { print(true); return 1; }":                      api.ErrType,
		"int main() { if (1) { return 1; } return 1; }":              api.ErrType,
		"int f(int x) { return x; } int main() { return f(); }":      api.ErrType,
		"int main() { return 1; } int f() { return 1 + true; }":      api.ErrType,
		"int main() { print(1); return 1; break; }":                  api.ErrLoop,
		"int main() { continue; return 1; }":                         api.ErrLoop,
		"int main() { print(1); }":                                   api.ErrEnd,
		"int main() { print(1); return 1; } int f() { }":             api.ErrEnd,
		"int main() { while (true) { break; } }":                     api.ErrEnd,
	} {
		p, e, line := parse.Parse(s)
		if e != api.OK {
			t.Fatalf("%s: Parse has %d, %d", s, e, line)
		}
		if got, _ := types.Check(p); got != fault {
			t.Errorf("%s: Check has %d, want %d", s, got, fault)
		}
		if got := eval.Run(p, []int{1}, 100); !equal(got, api.Run{}) {
			t.Errorf("G1: %s: Run has %v", s, got)
		}
	}
}

// TestG1NotValid: trees that are no programs are not run.
func TestG1NotValid(t *testing.T) {
	one := []api.Expr{number(1)}
	endless := []api.Stmt{{Kind: api.If, Args: []api.Expr{{Kind: api.Truth}}}}
	endless[0].Then = endless
	end := api.Stmt{Kind: api.Return, Args: one}
	for i, l := range [][]api.Stmt{
		nil,
		{{Kind: 99}, end},
		{{}, end},
		{{Kind: api.Return}},
		{{Kind: api.Return, Args: []api.Expr{number(1), number(2)}}},
		{{Kind: api.Return, Args: []api.Expr{number(-1)}}},
		{{Kind: api.Return, Args: []api.Expr{{}}}},
		{{Kind: api.Return, Args: []api.Expr{{Kind: api.Two, Op: api.Neg, Args: []api.Expr{number(1), number(2)}}}}},
		{{Kind: api.Return, Args: []api.Expr{{Kind: api.Two, Op: api.Add, Args: one}}}},
		{{Kind: api.If, Args: []api.Expr{{Kind: api.Truth, N: 2}}}, end},
		{{Kind: api.Put, Name: "a", Args: one}, end},
		{{Kind: api.Do, Args: one}, end},
		{{Kind: api.Let, Type: 3, Name: "x", Args: one}, end},
		{{Kind: api.Let, Type: api.Int, Name: "if", Args: one}, end},
		append(endless, end),
	} {
		p := api.Prog{Funcs: []api.Func{{Name: "main", Type: api.Int, Body: l}}}
		if got := eval.Run(p, []int{1}, 100); !equal(got, api.Run{}) {
			t.Errorf("G1: of statements %d Run has %v", i, got)
		}
	}
	if got := eval.Run(api.Prog{}, nil, 100); !equal(got, api.Run{}) {
		t.Errorf("G1: of no program Run has %v", got)
	}
}

// TestG1Depth: as deep as trees may be.
func TestG1Depth(t *testing.T) {
	depth := api.MaxDepth
	minus := strings.Repeat("-", depth-1) + "7"
	checkText(t, "int main() { return "+minus+"; }", result{api.Done, -7, nil, depth - 1, depth + 1})
	ifs := strings.Repeat("if (true) { int x = 1; ", depth-1) + "return 7; " + strings.Repeat("} ", depth-1)
	checkText(t, "int main() { "+ifs+" return 8; }", result{api.Done, 7, nil, 0, 4*(depth-1) + 2})
	loops := strings.Repeat("while (true) { ", depth-1) + "return 7; " + strings.Repeat("} ", depth-1)
	checkText(t, "int main() { "+loops+" }", result{api.Done, 7, nil, 0, 2*(depth-1) + 2})

	e := number(7)
	for range depth { // deeper by one than may be
		e = api.Expr{Kind: api.One, Op: api.Neg, Args: []api.Expr{e}}
	}
	if got := eval.Run(returns(e, false), nil, 1000); !equal(got, api.Run{}) {
		t.Errorf("G1: of an expression that is too deep Run has %v", got)
	}
}

// TestG1ManyCalls: more calls are active than Go's stack has room for.
func TestG1ManyCalls(t *testing.T) {
	const many = 1000000
	p := program(t, "int f(int n) { if (n == 0) { return 0; } return f(n - 1) + 1; } int main() { return f("+strconv.Itoa(many)+"); }")
	want := api.Run{Status: api.Done, Code: many, Cost: 4*many + 2, Fuel: 1}
	if got := eval.Run(p, nil, 11*many+10); !equal(got, want) {
		t.Errorf("G1: Run has %v, want %v", got, want)
	}
	p = program(t, "int f() { return -f(); } int main() { return f(); }")
	want = api.Run{Cost: many}
	if got := eval.Run(p, nil, 3*many+1); !equal(got, want) {
		t.Errorf("G1: Run has %v, want %v", got, want)
	}
}

// TestG1LongList: lists of statements have no limit.
func TestG1LongList(t *testing.T) {
	const many = 50000
	body := []api.Stmt{{Kind: api.Return, Args: []api.Expr{number(3)}}}
	for i := range many {
		body = append(body, api.Stmt{Kind: api.Print, Args: []api.Expr{number(i)}})
	}
	slices.Reverse(body)
	got := eval.Run(api.Prog{Funcs: []api.Func{{Name: "main", Type: api.Int, Body: body}}}, nil, 200000)
	if got.Status != api.Done || got.Code != 3 || got.Cost != many || got.Fuel != 200000-2*many-2 || len(got.Out) != many || got.Out[0] != many-1 || got.Out[many-1] != 0 {
		t.Errorf("G1: Run has %d, %d, %d, %d and %d numbers", got.Status, got.Code, got.Cost, got.Fuel, len(got.Out))
	}
}

// TestG1Arrays: all numbers of an array are 0 first, in each run anew.
func TestG1Arrays(t *testing.T) {
	s := "int a[" + strconv.Itoa(api.MaxSize) + "]; int b[" + strconv.Itoa(api.MaxSize) + "];" +
		"int main() { int i = 0; int n = 0; while (i < " + strconv.Itoa(api.MaxSize) + ") { n = n | a[i] | b[i]; a[i] = i + 1; b[i] = i + 2; i = i + 1; }" +
		" print(n); print(a[0] + a[i - 1]); print(b[i - 1]); return a[i]; }"
	p := program(t, s)
	for range 2 {
		got := eval.Run(p, nil, 100000)
		if got.Status != api.Bounds || !slices.Equal(got.Out, []int{0, api.MaxSize + 1, api.MaxSize + 1}) {
			t.Errorf("G1: Run has %v", got)
		}
	}
}
