package eval_test

import (
	"fmt"
	"math"
	"math/rand"
	"reflect"
	"slices"
	"strconv"
	"strings"
	"testing"

	"boxhedge/api"
	"boxhedge/eval"
	"boxhedge/rename"
)

// variable is a variable of a random program.
type variable struct {
	name string
	typ  int
}

// writer writes a random program.
type writer struct {
	strings.Builder
	r     *rand.Rand
	vars  []variable // what is there, the last one of a name counting
	loops int
	gives int
}

func (w *writer) text(l ...string) {
	for _, s := range l {
		w.WriteString(s)
	}
}

// pick is one of some texts.
func (w *writer) pick(l ...string) string {
	return l[w.r.Intn(len(l))]
}

// locals are the names of variables; some are those of arrays and functions.
func locals() []string {
	return []string{"x", "y", "z", "a", "f", "main"}
}

func typeName(typ int) string { return []string{api.Int: "int", api.Bool: "bool"}[typ] }

func (w *writer) number() string {
	if w.r.Intn(4) == 0 {
		return strconv.Itoa(int(w.r.Uint64() >> (1 + w.r.Intn(63))))
	}
	return strconv.Itoa(w.r.Intn(5))
}

// visible is the names of the variables of a type that are there.
func (w *writer) visible(typ int) []string {
	var l []string
	for _, name := range locals() {
		for _, v := range slices.Backward(w.vars) {
			if v.name != name {
				continue
			}
			if v.typ == typ {
				l = append(l, name)
			}
			break
		}
	}
	return l
}

func (w *writer) leaf(typ int) {
	if l := w.visible(typ); len(l) > 0 && w.r.Intn(3) > 0 {
		w.text(w.pick(l...))
	} else if typ == api.Int {
		w.text(w.number())
	} else {
		w.text(w.pick("true", "false"))
	}
}

// around writes an expression between two texts.
func (w *writer) around(before string, typ, depth int, behind string) {
	w.text(before)
	w.expr(typ, depth-1)
	w.text(behind)
}

func (w *writer) expr(typ, depth int) {
	switch {
	case depth <= 1 || w.r.Intn(4) == 0:
		w.leaf(typ)
	case typ == api.Int:
		w.int(depth)
	default:
		w.bool(depth)
	}
}

func (w *writer) int(depth int) {
	switch k := w.r.Intn(14); {
	case k == 0:
		w.around("a[", api.Int, depth, " & 3]")
	case k == 1:
		w.around("c[", api.Int, depth, "]")
	case k == 2:
		w.around("f(", api.Int, depth, ", ")
		w.around("", api.Bool, depth, ")")
	case k == 3:
		w.text("k(h[0], ")
		w.around("", api.Int, depth, ", 3)")
	case k == 4:
		w.text("read()")
	case k < 8:
		w.around(w.pick("-", "~", "i8", "i16", "i32", "u8", "u16", "u32")+"(", api.Int, depth, ")")
	case k == 8:
		w.around("(", api.Int, depth, w.pick(" / ", " % "))
		w.around("", api.Int, depth, ")")
	default:
		w.around("(", api.Int, depth, w.pick(" + ", " - ", " * ", " & ", " | ", " ^ ", " << ", " >> ", " >>> "))
		w.around("", api.Int, depth, ")")
	}
}

func (w *writer) bool(depth int) {
	switch k := w.r.Intn(8); {
	case k < 3:
		w.around("(", api.Int, depth, w.pick(" < ", " <= ", " > ", " >= ", " == ", " != "))
		w.around("", api.Int, depth, ")")
	case k == 3:
		w.around("(", api.Bool, depth, w.pick(" == ", " != "))
		w.around("", api.Bool, depth, ")")
	case k == 4:
		w.around("!(", api.Bool, depth, ")")
	case k == 5:
		w.around("g(", api.Int, depth, ")")
	default:
		w.around("(", api.Bool, depth, w.pick(" && ", " || "))
		w.around("", api.Bool, depth, ")")
	}
}

// list writes statements in braces, with variables of their own.
func (w *writer) list(depth, most int) {
	w.text("{ ")
	before := len(w.vars)
	for range w.r.Intn(most + 1) {
		w.stmt(depth, before)
	}
	w.vars = w.vars[:before]
	w.text("} ")
}

// stmt writes a statement of a list that began when so many variables were there.
func (w *writer) stmt(depth, before int) {
	typ := 1 + w.r.Intn(2)
	switch k := w.r.Intn(14); {
	case k < 3:
		w.let(w.pick(locals()...), typ, before)
	case k < 6 && len(w.visible(typ)) > 0:
		w.around(w.pick(w.visible(typ)...)+" = ", typ, 4, "; ")
	case k == 6:
		w.around("a[", api.Int, 3, " & 3] = ")
		w.around("", api.Int, 4, "; ")
	case k == 7:
		w.around("c[", api.Int, 3, "] = ")
		w.around("", api.Int, 3, "; ")
	case k < 10 && depth > 1:
		w.choice(depth)
	case k == 10 && depth > 1:
		w.loop(depth)
	case k == 11 && w.loops > 0:
		w.text(w.pick("break; ", "continue; "))
	case k == 12 && w.r.Intn(3) == 0:
		w.around("return ", w.gives, 4, "; ")
	case k == 12:
		w.around("f(", api.Int, 4, ", true); ")
	default:
		w.around("print(", api.Int, 4, "); ")
	}
}

// let writes a Let, if its list has none of that name yet.
func (w *writer) let(name string, typ, before int) {
	v := variable{name, typ}
	for _, x := range w.vars[before:] {
		if x.name == name {
			return
		}
	}
	w.around(typeName(typ)+" "+name+" = ", typ, 4, "; ")
	w.vars = append(w.vars, v)
}

func (w *writer) choice(depth int) {
	w.around("if (", api.Bool, 4, ") ")
	w.list(depth-1, 4)
	if w.r.Intn(2) == 0 {
		w.text("else ")
		w.list(depth-1, 4)
	}
}

// loop writes a While, most often one that ends after some rounds.
func (w *writer) loop(depth int) {
	if w.r.Intn(3) == 0 {
		w.around("while (", api.Bool, 4, ") ")
	} else {
		w.around("h[1] = ", api.Int, 2, " & 3; while (h[1] > 0) { h[1] = h[1] - 1; if (true) ")
		defer w.text("} ")
	}
	w.loops++
	w.list(depth-1, 5)
	w.loops--
}

// function writes a function, with variables of its own.
func (w *writer) function(typ int, name string, params ...int) {
	w.vars, w.gives = nil, typ
	w.text(typeName(typ), " ", name, "(")
	names := w.r.Perm(len(locals()))
	for i, typ := range params {
		w.text([]string{"", ", "}[min(i, 1)], typeName(typ), " ", locals()[names[i]])
		w.vars = append(w.vars, variable{locals()[names[i]], typ})
	}
	w.text(") { ")
	for range w.r.Intn(4) {
		w.stmt(4, len(params))
	}
	w.text("if (true) ")
	w.list(4, 8)
	w.around("return ", typ, 4, "; } ")
}

// text is the text of a random program.
func text(r *rand.Rand) string {
	w := &writer{r: r}
	w.text("int a[4]; int h[2]; int c[2]; ")
	w.function(api.Int, "f", api.Int, api.Bool)
	w.function(api.Int, "main")
	w.function(api.Bool, "g", api.Int)
	w.function(api.Int, "k", api.Int, api.Int, api.Int)
	return w.String()
}

// numbers are some that a program may read.
func numbers(r *rand.Rand) []int {
	var l []int
	for range r.Intn(12) {
		l = append(l, []int{0, 1, 2, 3, -1, math.MinInt, r.Intn(100), int(r.Uint64())}[r.Intn(8)])
	}
	return l
}

// fuels are amounts of all sizes.
func fuels(r *rand.Rand) []int {
	return []int{r.Intn(10), r.Intn(100), r.Intn(1000), 3000 + r.Intn(1000)}
}

func TestG1Random(t *testing.T) {
	r := rand.New(rand.NewSource(71))
	var ends [api.Input + 1]int
	for range 1500 {
		s := text(r)
		p, in := program(t, s), numbers(r)
		for _, fuel := range fuels(r) {
			want, _ := wanted(p, in, fuel)
			got := eval.Run(p, in, fuel)
			if !equal(got, want) {
				t.Fatalf("G1: %s, reading %v, with %d: Run has %v, want %v", s, in, fuel, got, want)
			}
			ends[want.Status]++
		}
	}
	for status, n := range ends {
		if n < 150 {
			t.Errorf("G1: only %d runs end with %d: %v", n, status, ends)
		}
	}
}

// TestG1EachFuel: a run stops wherever there is no more fuel.
func TestG1EachFuel(t *testing.T) {
	r := rand.New(rand.NewSource(72))
	for range 60 {
		s := text(r)
		p, in := program(t, s), numbers(r)
		for fuel := -2; fuel < 150; fuel++ {
			want, _ := wanted(p, in, fuel)
			if got := eval.Run(p, in, fuel); !equal(got, want) {
				t.Fatalf("G1: %s, reading %v, with %d: Run has %v, want %v", s, in, fuel, got, want)
			}
		}
	}
}

// TestG2Fuel: with more fuel a run proceeds in the same way.
func TestG2Fuel(t *testing.T) {
	r := rand.New(rand.NewSource(73))
	for range 800 {
		s := text(r)
		p, in := program(t, s), numbers(r)
		less, more := r.Intn(800), r.Intn(1000)
		one, other := eval.Run(p, in, less), eval.Run(p, in, less+more)
		if one.Status != api.Going {
			want := one
			want.Fuel += more
			if !equal(other, want) {
				t.Errorf("G2: %s, reading %v, with %d ends with %v, with %d with %v", s, in, less, one, less+more, other)
			}
			continue
		}
		begun := len(one.Out) <= len(other.Out) && slices.Equal(one.Out, other.Out[:len(one.Out)])
		if !begun || other.Cost < one.Cost || one.Fuel != 0 || one.Code != 0 {
			t.Errorf("G2: %s, reading %v, with %d stops with %v, with %d has %v", s, in, less, one, less+more, other)
		}
	}
}

// TestG2Numbers: numbers that were not read make no difference.
func TestG2Numbers(t *testing.T) {
	r := rand.New(rand.NewSource(74))
	for range 800 {
		s := text(r)
		p, in, fuel := program(t, s), numbers(r), r.Intn(1000)
		want, read := wanted(p, in, fuel)
		if want.Status == api.Input {
			continue
		}
		for _, l := range [][]int{in[:read], append(slices.Clone(in[:read]), 9, 8, 7), append(slices.Clone(in), numbers(r)...)} {
			if got := eval.Run(p, l, fuel); !equal(got, want) {
				t.Errorf("G2: %s, with %d: reading %v Run has %v, reading %v %v", s, fuel, in, want, l, got)
			}
		}
	}
}

// TestG2Renamed: the renamed program does the same.
func TestG2Renamed(t *testing.T) {
	r := rand.New(rand.NewSource(75))
	for range 800 {
		s := text(r)
		p, in, fuel := program(t, s), numbers(r), r.Intn(1000)
		q, fault := rename.Rename(p)
		if fault != api.OK {
			t.Fatalf("%s: Rename has %d", s, fault)
		}
		if got, want := eval.Run(q, in, fuel), eval.Run(p, in, fuel); !equal(got, want) {
			t.Errorf("G2: %s, reading %v, with %d has %v, renamed %v", s, in, fuel, want, got)
		}
	}
}

// TestR3R4Again: calls change nothing, and answer the same again, even when
// their answers are written into.
func TestR3R4Again(t *testing.T) {
	r := rand.New(rand.NewSource(34))
	for range 200 {
		s := text(r)
		p, in, fuel := program(t, s), append(numbers(r), 4), r.Intn(1000)
		given := slices.Clone(in)
		want := fmt.Sprint(eval.Run(p, in[:len(in)-1], fuel))
		for range 2 {
			got := eval.Run(p, in[:len(in)-1], fuel)
			if fmt.Sprint(got) != want {
				t.Fatalf("R4: %s: Run has %v, and had %s", s, got, want)
			}
			for i := range got.Out {
				got.Out[i] = 77
			}
			_ = append(got.Out, 78)
			if !slices.Equal(in, given) || !reflect.DeepEqual(p, program(t, s)) {
				t.Fatalf("R3: %s: what was given has changed: %v, %v", s, in, p)
			}
		}
	}
}
