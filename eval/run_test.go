package eval_test

import (
	"fmt"
	"strings"
	"testing"

	"boxhedge/api"
	"boxhedge/eval"
)

// TestG1Loops: each text is the statements of main.
func TestG1Loops(t *testing.T) {
	for s, w := range map[string]result{
		// the While itself is one step, however often its Arg is evaluated
		"while (false) { print(1); } return 3;":                              {api.Done, 3, nil, 0, 4},
		"int i = 0; while (i < 3) { i = i + 1; } return i;":                  {api.Done, 3, nil, 7, 29},
		"while (1 / 0 == 1) { } return 3;":                                   {api.Zero, 0, nil, 1, 5},
		"while (show(read()) != 7) { print(0); } return 3;":                  {api.Done, 3, []int{5, 0, 7}, 9, 21},
		"while (true) { print(read()); }":                                    {api.Input, 0, []int{5, 7, -2}, 7, 13},
		"while (true) { return 9; }":                                         {api.Done, 9, nil, 0, 4},
		"while (true) { while (true) { return 9; } }":                        {api.Done, 9, nil, 0, 6},
		"while (true) { if (read() == 7) { return 9; } else { print(1); } }": {api.Done, 9, []int{1}, 5, 15},
		// break and continue
		"while (true) { break; } return 3;":                                                     {api.Done, 3, nil, 0, 5},
		"while (true) { break; print(1); } return 3;":                                           {api.Done, 3, nil, 0, 5},
		"while (true) { if (read() < 0) { break; } } return 3;":                                 {api.Done, 3, nil, 6, 19},
		"while (read() > 0) { continue; print(1); } return 3;":                                  {api.Done, 3, nil, 6, 14},
		"while (read() > 0) { if (true) { continue; } print(1); } return 3;":                    {api.Done, 3, nil, 6, 18},
		"while (read() > 0) { while (true) { break; } print(1); } return 3;":                    {api.Done, 3, []int{1, 1}, 8, 22},
		"while (read() > 0) { while (read() > 0) { continue; } print(1); } return 3;":           {api.Input, 0, []int{1}, 8, 16},
		"while (true) { while (true) { break; } break; } return 3;":                             {api.Done, 3, nil, 0, 8},
		"while (true) { while (true) { if (true) { break; } } if (true) { break; } } return 3;": {api.Done, 3, nil, 0, 12},
		"while (true) { break; } while (true) { break; } return 3;":                             {api.Done, 3, nil, 0, 8},
	} {
		check(t, s, program(t, globals+"int main() { "+s+" }"), w)
	}
}

// prints is what a program prints, which it must do to its end.
func prints(t *testing.T, s string) string {
	t.Helper()
	r := eval.Run(program(t, s), nil, 10000)
	if r.Status != api.Done || r.Code != 0 {
		t.Errorf("G1: %s: Run has %v", s, r)
	}
	return strings.Trim(fmt.Sprint(r.Out), "[]")
}

// TestG1Scopes: each text is the statements of main, with what they print.
func TestG1Scopes(t *testing.T) {
	for s, want := range map[string]string{
		"int x = 1; if (true) { int x = 2; x = x + 5; print(x); } print(x);":                             "7 1",
		"int x = 1; if (true) { x = x + 5; int x = 2; print(x); } print(x);":                             "2 6",
		"int x = 1; if (true) { int x = x + 5; print(x); } print(x);":                                    "6 1",
		"int x = 1; if (false) { } else { int x = 2; print(x); x = 3; } print(x);":                       "2 1",
		"int x = 1; if (true) { int y = 2; if (true) { x = y; int x = 3; y = x; } print(y); } print(x);": "3 2",
		"int x = 1; if (true) { if (true) { int x = 2; } print(x); } print(x);":                          "1 1",
		"if (true) { int x = 1; } int x = 2; if (true) { print(x); x = 3; } print(x);":                   "2 3",
		"int x = 1; if (true) { int y = x; } int y = 5; if (true) { x = y; } print(x); print(y);":        "5 5",
		"int x = 1; if (true) { bool x = true; if (x) { print(2); } } print(x);":                         "2 1",
		"int x = 1; int y = x; x = 2; print(y); y = 3; print(x);":                                        "1 2",
		// what a loop declares is new each time
		"int i = 0; while (i < 3) { int x = i; x = x * 2; print(x); i = i + 1; }":                      "0 2 4",
		"int x = 1; while (x < 4) { int y = x; x = x + 1; int x = y * 10; print(x); }":                 "10 20 30",
		"int x = 1; int i = 0; while (i < 3) { i = i + 1; print(x); int x = x + i; print(x); }":        "1 2 1 3 1 4",
		"int x = 1; int i = 0; while (i < 3) { i = i + 1; if (true) { int x = 5; } print(x); x = 2; }": "1 2 2",
		// break and continue leave lists, with what these declare
		"int x = 1; int i = 0; while (i < 2) { i = i + 1; int x = 2; continue; } print(x);":                                       "1",
		"int x = 1; while (true) { int x = 2; if (true) { int x = 3; break; } } print(x);":                                        "1",
		"int x = 1; while (x < 3) { x = x + 1; int x = 9; if (true) { int x = 3; continue; } } print(x);":                         "3",
		"int x = 1; if (true) { int x = 2; while (true) { int x = 3; break; } print(x); } print(x);":                              "2 1",
		"int x = 1; if (true) { int x = 2; while (x < 4) { x = x + 1; if (true) { int x = 8; continue; } } print(x); } print(x);": "4 1",
		"int x = 1; while (true) { int x = 2; while (true) { int x = 3; if (true) { break; } } print(x); break; } print(x);":      "2 1",
		"int x = 1; while (true) { if (true) { int y = 2; x = y; break; } } int y = 7; if (true) { print(y); print(x); }":         "7 2",
		"int x = 1; while (true) { while (true) { int x = 4; break; } x = x + 1; if (x > 3) { break; } int x = 5; } print(x);":    "4",
	} {
		if got := prints(t, "int main() { "+s+" return 0; }"); got != want {
			t.Errorf("G1: %s prints %s, want %s", s, got, want)
		}
	}
}

// TestG1Calls: each text is a program, with what it prints.
func TestG1Calls(t *testing.T) {
	for s, want := range map[string]string{
		// each call has variables of its own
		"int f(int n) { int m = n; if (n > 0) { f(n - 1); m = m + 10; } print(m); return n; } int main() { return f(3) - 3; }": "0 11 12 13",
		"int f(int x) { x = x + 1; print(x); return x; } int main() { int x = 5; f(x); f(x); print(x); return 0; }":            "6 6 5",
		"int f(int x) { int x = x + 1; print(x); return x; } int main() { f(1); f(2); return 0; }":                             "2 3",
		"int f(int x) { if (true) { int x = 2; print(x); } return x; } int main() { print(f(7)); return 0; }":                  "2 7",
		"int f(int x, int y) { print(x); print(y); return 0; } int main() { int x = 1; int y = 2; return f(y, x); }":           "2 1",
		"int f(int x, bool b) { if (b) { print(x); return 0; } return f(x * 2, x > 3); } int main() { return f(1, false); }":   "8",
		// a return leaves all lists, and what waits goes on
		"int f(int n) { while (true) { int x = n; while (true) { int n = x * 2; return n; } } } int main() { int n = 3; print(n + f(n) + n); return 0; }":                                                                       "12",
		"int f(int n) { if (n > 0) { int x = n; return f(n - 1) + x; } return 0; } int main() { print(100 - f(4)); return 0; }":                                                                                                 "90",
		"bool even(int n) { if (n == 0) { return true; } return odd(n - 1); } bool odd(int n) { if (n == 0) { return false; } return even(n - 1); } int main() { if (even(10) && !even(7) && odd(3)) { print(1); } return 0; }": "1",
		"int f(int a, int b, int c, int d, int e, int f, int g, int h) { print(a); print(h); return f - c; } int main() { print(f(1, 2, 3, 4, 5, 6, 7, 8)); return 0; }":                                                        "1 8 3",
		// main is a function like others
		"int n[1]; int main() { n[0] = n[0] + 1; if (n[0] < 4) { print(n[0] * 10 + main()); print(n[0]); } return 0; }":     "30 4 20 4 10 4",
		"int n[1]; int f() { return main() + 1; } int main() { n[0] = n[0] + 1; if (n[0] == 1) { print(f()); } return 0; }": "1",
		// arrays are there once
		"int a[2]; int put(int i, int n) { a[i] = n; return a[1 - i]; } int main() { print(put(0, 5)); print(put(1, 6)); print(a[0] * a[1]); return 0; }": "0 5 30",
		"int a[1]; int b[1]; int main() { a[0] = 1; print(b[0]); b[0] = 2; print(a[0]); print(b[0]); return 0; }":                                         "0 1 2",
		"int a[1]; int f(int a) { a[0] = a; return a; } int main() { print(f(4)); int f = 2; print(f(f) + a[0] + f); return 0; }":                         "4 6",
	} {
		if got := prints(t, s); got != want {
			t.Errorf("G1: %s prints %s, want %s", s, got, want)
		}
	}
}
