package eval_test

import (
	"fmt"
	"math"
	"testing"

	"boxhedge/api"
	"boxhedge/eval"
	"boxhedge/parse"
	"boxhedge/types"
	"boxhedge/wrap"
)

// program is the program that s is the text of; it passes Check.
func program(t *testing.T, s string) api.Prog {
	t.Helper()
	p, fault, line := parse.Parse(s)
	if fault != api.OK {
		t.Fatalf("%q: Parse has %d, %d", s, fault, line)
	}
	if fault, at := types.Check(p); fault != api.OK {
		t.Fatalf("%q: Check has %d, %v", s, fault, at)
	}
	return p
}

// equal tells whether two runs are the same; an empty list may be nil or not.
func equal(a, b api.Run) bool {
	return fmt.Sprint(a) == fmt.Sprint(b)
}

// result is how a run ended, and how many steps it made.
type result struct {
	status, code int
	out          []int
	cost, steps  int
}

// check holds a run of p, which may read 5, 7 and -2, against its result: with
// just enough fuel, with more, and with too little by one.
func check(t *testing.T, s string, p api.Prog, w result) {
	t.Helper()
	in := []int{5, 7, -2}
	want := api.Run{Status: w.status, Code: w.code, Out: w.out, Cost: w.cost}
	for _, spare := range []int{0, 1, 1000} {
		want.Fuel = spare
		if got := eval.Run(p, in, w.steps+spare); !equal(got, want) {
			t.Errorf("G1: %s: with %d fuel Run has %v, want %v", s, w.steps+spare, got, want)
		}
	}
	if got := eval.Run(p, in, w.steps-1); got.Status != api.Going || got.Code != 0 || got.Fuel != 0 {
		t.Errorf("G1: %s: with %d fuel Run has %v, want it to stop", s, w.steps-1, got)
	}
}

func checkText(t *testing.T, s string, w result) {
	t.Helper()
	check(t, s, program(t, s), w)
}

func TestExample(t *testing.T) {
	checkText(t, "int main() { print(6 * 7); return 1 / 0; }", result{api.Zero, 0, []int{42}, 3, 8})
}

// globals are what the texts of the tests of expressions and statements use.
const globals = `
int a[3]; int b[1];
int id(int x) { return x; }
int show(int x) { print(x); return x; }
bool seen(int x, bool b) { print(x); return b; }
int last(int x, int y, int z) { return z; }
int seven() { return 7; }
`

// TestG1Numbers: of a step each is the Return, and each expression.
func TestG1Numbers(t *testing.T) {
	for s, w := range map[string]result{
		"0":                   {api.Done, 0, nil, 0, 2},
		"12":                  {api.Done, 12, nil, 0, 2},
		"9223372036854775807": {api.Done, math.MaxInt, nil, 0, 2},
		"-5":                  {api.Done, -5, nil, 1, 3},
		"~5":                  {api.Done, -6, nil, 1, 3},
		"i8(200)":             {api.Done, -56, nil, 1, 3},
		"u32(-1)":             {api.Done, math.MaxUint32, nil, 2, 4},
		"2 + 3":               {api.Done, 5, nil, 1, 4},
		"2 - 3":               {api.Done, -1, nil, 1, 4},
		"2 - 3 - 4":           {api.Done, -5, nil, 2, 6},
		"2 - (3 - 4)":         {api.Done, 3, nil, 2, 6},
		"-7 / 2":              {api.Done, -3, nil, 2, 5},
		"1 << 65":             {api.Done, 2, nil, 1, 4},
		// there is no result
		"7 / 0":                   {api.Zero, 0, nil, 1, 4},
		"7 % 0":                   {api.Zero, 0, nil, 1, 4},
		"7 / 0 + read()":          {api.Zero, 0, nil, 1, 5},
		"read() + 7 % (1 - 1)":    {api.Zero, 0, nil, 3, 8},
		"0 / (1 / 0)":             {api.Zero, 0, nil, 1, 6},
		"show(1) / 0 + show(2)":   {api.Zero, 0, []int{1}, 3, 10},
		"show(1) / (show(0) + 0)": {api.Zero, 0, []int{1, 0}, 6, 16},
		// numbers of arrays
		"a[0]":                        {api.Done, 0, nil, 1, 3},
		"a[2]":                        {api.Done, 0, nil, 1, 3},
		"b[0]":                        {api.Done, 0, nil, 1, 3},
		"a[a[a[0]]]":                  {api.Done, 0, nil, 3, 5},
		"a[3]":                        {api.Bounds, 0, nil, 1, 3},
		"b[1]":                        {api.Bounds, 0, nil, 1, 3},
		"a[-1]":                       {api.Bounds, 0, nil, 2, 4},
		"a[9223372036854775807]":      {api.Bounds, 0, nil, 1, 3},
		"a[4294967296]":               {api.Bounds, 0, nil, 1, 3},
		"a[-9223372036854775807 - 1]": {api.Bounds, 0, nil, 3, 6},
		"show(1) + a[show(3)]":        {api.Bounds, 0, []int{1, 3}, 5, 15},
		"a[b[1]]":                     {api.Bounds, 0, nil, 1, 4},
		"a[1 / 0]":                    {api.Zero, 0, nil, 1, 5},
		// numbers that are read
		"read()":                            {api.Done, 5, nil, 1, 2},
		"read() - read()":                   {api.Done, -2, nil, 3, 4},
		"read() * read() - read()":          {api.Done, 37, nil, 5, 6},
		"read() * (read() - read())":        {api.Done, 45, nil, 5, 6},
		"read() + read() + read() + read()": {api.Input, 0, nil, 6, 8},
		"last(read(), read(), a[read()])":   {api.Bounds, 0, nil, 4, 6},
		// calls
		"id(4)":                             {api.Done, 4, nil, 1, 5},
		"seven()":                           {api.Done, 7, nil, 1, 4},
		"last(1, 2, 3)":                     {api.Done, 3, nil, 1, 7},
		"id(id(4) - 1)":                     {api.Done, 3, nil, 3, 10},
		"show(1) - show(2)":                 {api.Done, -1, []int{1, 2}, 5, 14},
		"last(show(3), show(1), show(2))":   {api.Done, 2, []int{3, 1, 2}, 7, 22},
		"last(show(3), show(1) / 0, id(2))": {api.Zero, 0, []int{3, 1}, 5, 16},
	} {
		check(t, s, program(t, globals+"int main() { return "+s+"; }"), w)
	}
}

// TestG1Truth: of a step each are the If, each expression, the Return and its number.
func TestG1Truth(t *testing.T) {
	for s, w := range map[string]result{
		"true":   {api.Done, 1, nil, 0, 4},
		"false":  {api.Done, 2, nil, 0, 4},
		"!true":  {api.Done, 2, nil, 1, 5},
		"!false": {api.Done, 1, nil, 1, 5},
		// Both and Either cost nothing, and do not always want the second Arg
		"true && true":                                       {api.Done, 1, nil, 0, 6},
		"true && false":                                      {api.Done, 2, nil, 0, 6},
		"false && true":                                      {api.Done, 2, nil, 0, 5},
		"false && false":                                     {api.Done, 2, nil, 0, 5},
		"true || true":                                       {api.Done, 1, nil, 0, 5},
		"true || false":                                      {api.Done, 1, nil, 0, 5},
		"false || true":                                      {api.Done, 1, nil, 0, 6},
		"false || false":                                     {api.Done, 2, nil, 0, 6},
		"false && 1 / 0 == 1":                                {api.Done, 2, nil, 0, 5},
		"true && 1 / 0 == 1":                                 {api.Zero, 0, nil, 1, 7},
		"true || 1 / 0 == 1":                                 {api.Done, 1, nil, 0, 5},
		"false || 1 / 0 == 1":                                {api.Zero, 0, nil, 1, 7},
		"1 / 0 == 1 && false":                                {api.Zero, 0, nil, 1, 6},
		"true && false && true":                              {api.Done, 2, nil, 0, 7},
		"true && (false && true)":                            {api.Done, 2, nil, 0, 7},
		"false || true && true":                              {api.Done, 1, nil, 0, 8},
		"(false || true) && true":                            {api.Done, 1, nil, 0, 8},
		"(true || false) && false":                           {api.Done, 2, nil, 0, 7},
		"true || false && false":                             {api.Done, 1, nil, 0, 5},
		"!(true && false) == !!true":                         {api.Done, 1, nil, 4, 11},
		"seen(1, true) && seen(2, true)":                     {api.Done, 1, []int{1, 2}, 4, 18},
		"seen(1, false) && seen(2, 1 / 0 == 1)":              {api.Done, 2, []int{1}, 2, 11},
		"seen(1, true) || seen(2, true)":                     {api.Done, 1, []int{1}, 2, 11},
		"seen(1, false) || seen(2, false) || seen(3, false)": {api.Done, 2, []int{1, 2, 3}, 6, 26},
		// comparisons cost 1
		"1 < 2":                     {api.Done, 1, nil, 1, 6},
		"2 <= 1":                    {api.Done, 2, nil, 1, 6},
		"1 > 2":                     {api.Done, 2, nil, 1, 6},
		"2 >= 2":                    {api.Done, 1, nil, 1, 6},
		"1 == 2":                    {api.Done, 2, nil, 1, 6},
		"1 != 2":                    {api.Done, 1, nil, 1, 6},
		"true == true":              {api.Done, 1, nil, 1, 6},
		"true != (false == true)":   {api.Done, 1, nil, 2, 8},
		"!(1 < 2) || 3 < 4":         {api.Done, 1, nil, 3, 11},
		"seen(5, read() < -read())": {api.Done, 2, []int{5}, 6, 13},
	} {
		check(t, s, program(t, globals+"int main() { if ("+s+") { return 1; } return 2; }"), w)
	}
}

func number(n int) api.Expr {
	return api.Expr{Kind: api.Num, N: n}
}

// whole is a number, which may be less than 0, as an expression that costs so
// much, with so many steps.
func whole(n int) (e api.Expr, cost, steps int) {
	switch {
	case n >= 0:
		return number(n), 0, 1
	case n == math.MinInt:
		return api.Expr{Kind: api.One, Op: api.Inv, Args: []api.Expr{number(math.MaxInt)}}, 1, 2
	}
	return api.Expr{Kind: api.One, Op: api.Neg, Args: []api.Expr{number(-n)}}, 1, 2
}

// returns is a program that returns an expression, of any type.
func returns(e api.Expr, truth bool) api.Prog {
	f := api.Func{Name: "main", Type: api.Int, Body: []api.Stmt{{Kind: api.Return, Args: []api.Expr{e}}}}
	if truth {
		f.Body = []api.Stmt{{Kind: api.If, Args: []api.Expr{e}, Then: []api.Stmt{
			{Kind: api.Return, Args: []api.Expr{number(1)}},
		}}, {Kind: api.Return, Args: []api.Expr{number(0)}}}
	}
	return api.Prog{Funcs: []api.Func{f}}
}

// samples are numbers of all sizes.
func samples() []int {
	return []int{0, 1, 2, 7, 63, 64, 127, 128, 200, 1 << 15, 1 << 31, 1 << 32, math.MaxInt, -1, -2, -7, -128, -129, -1 << 31, math.MinInt + 1, math.MinInt}
}

// TestG1Operators: the results are those of layer 1.
func TestG1Operators(t *testing.T) {
	for op := api.Add; op <= api.U32; op++ {
		for _, a := range samples() {
			x, cost, steps := whole(a)
			if op == api.Not || op == api.Both || op == api.Either {
				continue
			}
			if op > api.Not || op == api.Neg || op == api.Inv {
				e := api.Expr{Kind: api.One, Op: op, Args: []api.Expr{x}}
				check(t, fmt.Sprint(op, a), returns(e, false), result{api.Done, wrap.One(op, a), nil, cost + 1, steps + 2})
				continue
			}
			for _, b := range samples() {
				y, more, further := whole(b)
				n, ok := wrap.Two(op, a, b)
				e := api.Expr{Kind: api.Two, Op: op, Args: []api.Expr{x, y}}
				w := result{api.Zero, 0, nil, cost + more + 1, steps + further + 2}
				truth := op >= api.Lt && op <= api.Ne
				if ok {
					w.status, w.code = api.Done, n
				}
				if truth { // the Return and its number
					w.steps += 2
				}
				check(t, fmt.Sprint(op, a, b), returns(e, truth), w)
			}
		}
	}
}

// TestG1Statements: each text is the statements of main, behind an int i = 0,
// which makes two steps, and before a return i, which makes two more.
func TestG1Statements(t *testing.T) {
	for s, w := range map[string]result{
		"":                                {api.Done, 0, nil, 0, 4},
		"int x = 3; i = x;":               {api.Done, 3, nil, 0, 8},
		"int x = 3; int y = x; x = 4;":    {api.Done, 0, nil, 0, 10},
		"i = 4;":                          {api.Done, 4, nil, 0, 6},
		"i = i - 1; i = i * 5;":           {api.Done, -5, nil, 2, 12},
		"bool b = 1 < 2; b = !b;":         {api.Done, 0, nil, 2, 11},
		"bool b = false; if (b) {i = 1;}": {api.Done, 0, nil, 0, 8},
		"int x = i / i;":                  {api.Zero, 0, nil, 1, 6},
		"i = read(); i = read();":         {api.Done, 7, nil, 2, 8},
		// arrays
		"a[0] = 5; i = a[0] + a[1];":            {api.Done, 5, nil, 4, 13},
		"a[2] = 5; a[1] = a[2]; i = a[1];":      {api.Done, 5, nil, 4, 14},
		"a[1] = 5; a[1] = 6; i = a[1];":         {api.Done, 6, nil, 3, 13},
		"a[3] = 5;":                             {api.Bounds, 0, nil, 1, 5},
		"a[-1] = 5;":                            {api.Bounds, 0, nil, 2, 6},
		"a[9223372036854775807] = 5;":           {api.Bounds, 0, nil, 1, 5},
		"a[4294967297] = 5;":                    {api.Bounds, 0, nil, 1, 5},
		"b[0] = 8; b[1] = 9;":                   {api.Bounds, 0, nil, 2, 8},
		"a[show(1)] = show(2); print(a[1]);":    {api.Done, 0, []int{1, 2, 2}, 7, 20},
		"a[show(3)] = show(2);":                 {api.Bounds, 0, []int{3, 2}, 5, 15},
		"a[show(3)] = show(2) / i;":             {api.Zero, 0, []int{3, 2}, 5, 17},
		"a[show(3) / i] = show(2);":             {api.Zero, 0, []int{3}, 3, 11},
		"a[a[0]] = 2; a[a[0]] = 3; i = a[2];":   {api.Done, 3, nil, 5, 15},
		"a[read()] = 1;":                        {api.Bounds, 0, nil, 2, 5},
		"int a = 2; a[a] = a; i = a[a] + b[0];": {api.Done, 2, nil, 4, 15},
		// conditionals
		"if (true) { i = 1; }":                                              {api.Done, 1, nil, 0, 8},
		"if (false) { i = 1; }":                                             {api.Done, 0, nil, 0, 6},
		"if (true) { i = 1; } else { i = 2; }":                              {api.Done, 1, nil, 0, 8},
		"if (false) { i = 1; } else { i = 2; }":                             {api.Done, 2, nil, 0, 8},
		"if (false) { } else { i = 2; }":                                    {api.Done, 2, nil, 0, 8},
		"if (true) { } else { i = 2; }":                                     {api.Done, 0, nil, 0, 6},
		"if (i < 1) { return 8; }":                                          {api.Done, 8, nil, 1, 8},
		"if (i == 1 / i) { return 8; }":                                     {api.Zero, 0, nil, 1, 8},
		"if (true) { if (false) { } else { return 9; } }":                   {api.Done, 9, nil, 0, 8},
		"if (i == 0) { i = 1; } if (i == 0) { i = 2; } else { i = i + 4; }": {api.Done, 5, nil, 3, 18},
		// printing, and calls without a use of their number
		"print(i); print(-3);":               {api.Done, 0, []int{0, -3}, 3, 9},
		"print(i / i);":                      {api.Zero, 0, nil, 1, 6},
		"print(show(4));":                    {api.Done, 0, []int{4, 4}, 3, 11},
		"show(4);":                           {api.Done, 0, []int{4}, 2, 11},
		"seen(4, i != i);":                   {api.Done, 0, []int{4}, 3, 14},
		"show(1); show(2); i = show(3) - 9;": {api.Done, -6, []int{1, 2, 3}, 7, 27},
		"return show(2); print(1);":          {api.Done, 2, []int{2}, 2, 9},
	} {
		check(t, s, program(t, globals+"int main() { int i = 0; "+s+" return i; }"), w)
	}
}
