package shape_test

import (
	"math"
	"reflect"
	"slices"
	"strings"
	"testing"

	"boxhedge/api"
	"boxhedge/sample"
	"boxhedge/shape"
)

// The values of the flow main of a test: 0 and 1 are Ints, 2 and 3 Bools, that
// are there; 4, 5 and 6 are Ints, 7 and 8 Bools, that may be defined.
var types = []int{api.Int, api.Int, api.Bool, api.Bool, api.Int, api.Int, api.Int, api.Bool, api.Bool}

func vs(l ...int) []int { return l }

func kids(l ...[]api.Node) [][]api.Node { return l }

func end(kind int, args ...int) api.Node { return api.Node{Kind: kind, Args: args} }

func yield(args ...int) []api.Node { return []api.Node{end(api.NYield, args...)} }

func num(out int) api.Node { return api.Node{Kind: api.NNum, Outs: vs(out)} }

func fork(cond int, outs []int, l ...[]api.Node) api.Node {
	return api.Node{Kind: api.NIf, Args: vs(cond), Outs: outs, Kids: l}
}

func loop(args, params, outs []int, l ...api.Node) api.Node {
	return api.Node{Kind: api.NLoop, Args: args, Params: params, Outs: outs, Kids: kids(l)}
}

var ret = end(api.NReturn, 0)

// unit is one with two arrays and four flows, of which main has these nodes
// behind those that define its first values.
func unit(l ...api.Node) api.Unit {
	head := []api.Node{num(0), num(1), {Kind: api.NTruth, Outs: vs(2)}, {Kind: api.NTruth, N: 1, Outs: vs(3)}}
	flow := func(name string, typ int, types ...int) api.Flow {
		v := len(types)
		value := api.Node{Kind: api.NNum, Outs: vs(v)}
		if typ == api.Bool {
			value.Kind = api.NTruth
		}
		return api.Flow{Name: name, Type: typ, Params: len(types), Types: append(types, typ), Body: []api.Node{value, end(api.NReturn, v)}}
	}
	return api.Unit{
		Arrays: []api.Array{{Name: "a", Size: 1}, {Name: "b", Size: api.MaxSize}},
		Flows: []api.Flow{
			flow("f", api.Bool, api.Int, api.Bool), flow("g", api.Int),
			{Name: "main", Type: api.Int, Types: slices.Clone(types), Body: append(head, l...)},
			flow("h", api.Bool, api.Int),
		},
	}
}

// right tells that a unit is valid, wrong that it has an error in a flow.
func right(t *testing.T, u api.Unit, what ...any) {
	t.Helper()
	if e, i := shape.Check(u); e != api.OK || i != 0 {
		t.Errorf("H1: %v: %d %d, want OK", what, e, i)
	}
}

func wrong(t *testing.T, u api.Unit, at int, what ...any) {
	t.Helper()
	if e, i := shape.Check(u); e != api.ErrForm || i != at {
		t.Errorf("H1: %v: %d %d, want %d %d", what, e, i, api.ErrForm, at)
	}
}

func badArg(t *testing.T, u api.Unit, what ...any) {
	t.Helper()
	if e, i := shape.Check(u); e != api.ErrArg || i != 0 {
		t.Errorf("H1: %v: %d %d, want ErrArg", what, e, i)
	}
}

func TestH1Names(t *testing.T) {
	right(t, unit(ret))
	badArg(t, api.Unit{}, "nothing")
	for _, s := range []string{"x", "_", strings.Repeat("Z", 20), "mains", "v0"} {
		u := unit(ret)
		u.Arrays[1].Name = s
		right(t, u, "array", s)
		u = unit(ret)
		u.Flows[3].Name = s
		right(t, u, "flow", s)
	}
	for _, s := range []string{"", "1", "x y", "int", "read", "i8", "\u00e9", strings.Repeat("Z", 21), "a", "f", "main", "h"} {
		u := unit(ret)
		u.Arrays[1].Name = s
		badArg(t, u, "array", s)
		if s == "h" {
			continue
		}
		u = unit(ret)
		u.Flows[3].Name = s
		badArg(t, u, "flow", s)
	}
	u := unit(ret)
	u.Flows[2].Name = "other"
	badArg(t, u, "no main")
	u.Arrays[0].Name = "main"
	badArg(t, u, "an array main")
}

func TestH1Heads(t *testing.T) {
	for size, ok := range map[int]bool{1: true, 1000: true, 0: false, -1: false, 1001: false, math.MaxInt: false, math.MinInt: false} {
		u := unit(ret)
		u.Arrays[1].Size = size
		if ok {
			right(t, u, "size", size)
		} else {
			badArg(t, u, "size", size)
		}
	}
	for _, typ := range []int{0, -1, 3, 1 << 32, math.MinInt} {
		u := unit(ret)
		u.Flows[3].Type = typ
		badArg(t, u, "type", typ)
	}
	for _, n := range []int{-1, math.MinInt, 3, math.MaxInt} {
		u := unit(ret)
		u.Flows[3].Params = n
		badArg(t, u, "params", n)
	}
	u := unit(end(api.NReturn, 2))
	u.Flows[2].Type = api.Bool
	badArg(t, u, "a main of Bool")
	u = unit(ret)
	u.Flows[2].Params = 1
	badArg(t, u, "a main with a parameter")
	u.Flows[2].Types = nil
	u.Flows[2].Params = 0
	wrong(t, u, 2, "a main without types")
}

// TestH1Order has units with two errors.
func TestH1Order(t *testing.T) {
	u := unit(end(api.NReturn, 2))
	u.Flows[3].Body = nil
	wrong(t, u, 2, "the first of two flows")
	u.Flows[0].Types[1] = 0
	wrong(t, u, 0, "the first of three flows")
	u.Flows[3].Params = 9
	badArg(t, u, "more parameters than types behind a flow that is not valid")
	u = unit(end(api.NReturn, 2))
	u.Arrays = append(u.Arrays, api.Array{Name: "main", Size: 1})
	badArg(t, u, "a name that is there twice")
	// What a call needs is told by the flow that it names, valid or not.
	call := func(v int) api.Node { return api.Node{Kind: api.NCall, Name: "h", Args: vs(v), Outs: vs(7)} }
	for typ, at := range map[int]int{0: 3, 3: 2, -1: 2} {
		for v := range 4 {
			u = unit(call(v), ret)
			u.Flows[3].Types[0] = typ
			wrong(t, u, at, "a call with the value", v, "of a flow with the type", typ)
		}
	}
}

func TestH1Types(t *testing.T) {
	for _, typ := range []int{0, -1, 3, 1 << 32, math.MaxInt} {
		u := unit(ret)
		u.Flows[2].Types = append(u.Flows[2].Types, typ)
		wrong(t, u, 2, "type", typ)
		u = unit(ret)
		u.Flows[0].Types[0] = typ
		wrong(t, u, 0, "type of a parameter", typ)
	}
	many := func(n int) []int { return slices.Repeat([]int{api.Int}, n) }
	u := unit(ret)
	u.Flows[2].Types = append(u.Flows[2].Types, many(api.MaxValues-len(types))...)
	right(t, u, "20000 values")
	u.Flows[2].Types = append(u.Flows[2].Types, api.Int)
	wrong(t, u, 2, "20001 values")
	for n, ok := range map[int]bool{7: true, 8: true, 9: false, 100: false} {
		u = unit(api.Node{Kind: api.NCall, Name: "f", Args: make([]int, n), Outs: vs(4)}, ret)
		u.Flows[0] = api.Flow{Name: "f", Type: api.Int, Params: n, Types: many(n), Body: []api.Node{ret}}
		if ok {
			right(t, u, n, "parameters")
		} else {
			wrong(t, u, 0, n, "parameters")
		}
	}
}

// plain is nodes of all kinds that have no Kids and end no list.
func plain() []api.Node {
	l := []api.Node{
		{Kind: api.NNum, N: math.MinInt, Outs: vs(4)},
		{Kind: api.NNum, N: math.MaxInt, Outs: vs(4)},
		{Kind: api.NTruth, Outs: vs(7)},
		{Kind: api.NTruth, N: 1, Outs: vs(7)},
		{Kind: api.NOne, Op: api.Not, Args: vs(2), Outs: vs(7)},
		{Kind: api.NTwo, Op: api.Eq, Args: vs(2, 3), Outs: vs(7)},
		{Kind: api.NTwo, Op: api.Ne, Args: vs(3, 3), Outs: vs(7)},
		{Kind: api.NLoad, Name: "a", Args: vs(1), Outs: vs(4)},
		{Kind: api.NStore, Name: "b", Args: vs(1, 0)},
		{Kind: api.NCall, Name: "f", Args: vs(1, 3), Outs: vs(7)},
		{Kind: api.NCall, Name: "g", Outs: vs(4)},
		{Kind: api.NCall, Name: "main", Outs: vs(4)},
		{Kind: api.NCall, Name: "h", Args: vs(0), Outs: vs(7)},
		{Kind: api.NRead, Outs: vs(4)},
		{Kind: api.NPrint, Args: vs(1)},
	}
	for op := api.Add; op <= api.Ne; op++ {
		out := 4
		if op >= api.Lt {
			out = 7
		}
		l = append(l, api.Node{Kind: api.NTwo, Op: op, Args: vs(0, 1), Outs: vs(out)})
	}
	for op := api.Neg; op <= api.U32; op++ {
		if op != api.Not {
			l = append(l, api.Node{Kind: api.NOne, Op: op, Args: vs(1), Outs: vs(4)})
		}
	}
	return l
}

// spoil calls f with what is like n, but for one change.
func spoil(n api.Node, f func(what string, n api.Node)) {
	for i, list := range []*[]int{&n.Args, &n.Outs} {
		what, good := []string{"Args", "Outs"}[i], *list
		*list = append(slices.Clone(good), 4+i)
		f("more "+what, n)
		if len(good) > 0 {
			*list = good[1:]
			f("fewer "+what, n)
		}
		for j := range good {
			*list = slices.Clone(good)
			for _, v := range []int{-1, math.MinInt, len(types), math.MaxInt, 5 - i*4} {
				(*list)[j] = v
				f(what+" that are not there, or are there already", n)
			}
			(*list)[j] = []int{2, 2, 0, 0, 7, 7, 7, 4, 4}[good[j]]
			f(what+" of another type", n)
		}
		*list = good
	}
	if n.Kind != api.NOne && n.Kind != api.NTwo {
		n.Op = api.Add
		f("an Op", n)
		n.Op = 0
	}
	if n.Kind != api.NNum && n.Kind != api.NTruth {
		n.N = 1
		f("an N", n)
		n.N = 0
	}
	name := n.Name
	for _, n.Name = range []string{"a", "f", "g", "nobody", "", "x y"} {
		if n.Name != name && !(n.Name == "a" && name == "b") && !(n.Name == "g" && name == "main") {
			f("another name", n)
		}
	}
	n.Name = name
	if n.Kind != api.NLoop {
		n.Params = vs(6)
		f("a Param", n)
		n.Params = nil
	}
	good := n.Kids
	n.Kids = append(slices.Clone(good), yield())
	f("more Kids", n)
	n.Kids = append(slices.Clone(good), nil)
	f("more Kids, without nodes", n)
	if len(good) > 0 {
		n.Kids = good[1:]
		f("fewer Kids", n)
	}
}

func TestH1Plain(t *testing.T) {
	for _, n := range plain() {
		right(t, unit(n, ret), n)
		spoil(n, func(what string, bad api.Node) {
			wrong(t, unit(bad, ret), 2, what, bad)
		})
	}
	for _, n := range []api.Node{
		{Kind: api.NTruth, N: 2, Outs: vs(7)},
		{Kind: api.NTruth, N: -1, Outs: vs(7)},
		{Kind: api.NTwo, Op: api.Both, Args: vs(2, 3), Outs: vs(7)},
		{Kind: api.NTwo, Op: api.Either, Args: vs(2, 3), Outs: vs(7)},
		{Kind: api.NTwo, Op: api.Lt, Args: vs(2, 3), Outs: vs(7)},
		{Kind: api.NTwo, Op: api.And, Args: vs(2, 3), Outs: vs(7)},
		{Kind: api.NTwo, Args: vs(0, 1), Outs: vs(4)},
		{Kind: api.NTwo, Op: -1, Args: vs(0, 1), Outs: vs(4)},
		{Kind: api.NTwo, Op: api.Neg, Args: vs(0), Outs: vs(4)},
		{Kind: api.NTwo, Op: api.Neg, Args: vs(0, 1), Outs: vs(4)},
		{Kind: api.NOne, Args: vs(0), Outs: vs(4)},
		{Kind: api.NOne, Op: api.U32 + 1, Args: vs(0), Outs: vs(4)},
		{Kind: api.NOne, Op: api.Either, Args: vs(2), Outs: vs(7)},
		{Kind: api.NOne, Op: api.Ne, Args: vs(0), Outs: vs(7)},
		{},
		{Kind: -1},
		{Kind: api.NReturn + 1},
		{Kind: math.MaxInt},
	} {
		wrong(t, unit(n, ret), 2, n)
		wrong(t, unit(n), 2, "last", n)
	}
}

func TestH1Ends(t *testing.T) {
	next := end(api.NNext, 1)
	whole := []api.Node{
		ret,
		fork(2, nil, kids([]api.Node{ret}, []api.Node{ret})...),
		loop(vs(0), vs(4), nil, next),
		loop(vs(0), vs(4), nil, fork(2, nil, []api.Node{next}, yield()), ret),
		loop(nil, nil, nil, loop(nil, nil, nil, end(api.NLeave)), end(api.NNext)),
	}
	for _, n := range whole {
		right(t, unit(n), n)
		wrong(t, unit(n, ret), 2, "closed, but not last", n)
		wrong(t, unit(num(4)), 2, "last, but not closed")
		spoil(n, func(what string, bad api.Node) { wrong(t, unit(bad), 2, what, bad) })
		n.Outs = vs(5)
		wrong(t, unit(n), 2, "closed, with Outs", n)
	}
	for kind := api.NYield; kind <= api.NLeave; kind++ {
		wrong(t, unit(end(kind)), 2, "in no Kid", kind)
		wrong(t, unit(end(kind), ret), 2, "in no Kid, not last", kind)
	}
	wrong(t, unit(), 2, "no end")
	u := unit(ret)
	u.Flows[2].Body = nil
	wrong(t, u, 2, "no node")
	u.Flows[2].Body = []api.Node{}
	wrong(t, u, 2, "an empty list")
}

func TestH1Forks(t *testing.T) {
	n := fork(2, vs(4, 7), yield(0, 2), yield(1, 3))
	right(t, unit(n, end(api.NReturn, 4)))
	wrong(t, unit(n), 2, "not closed, but last")
	spoil(n, func(what string, bad api.Node) { wrong(t, unit(bad, ret), 2, what, bad) })
	for _, l := range [][][]api.Node{
		{yield(), yield()}, {yield(), {ret}}, {{ret}, yield()}, {{num(4), end(api.NYield)}, {num(5), ret}},
		{{fork(3, nil, yield(), []api.Node{ret}), end(api.NYield)}, {fork(3, nil, []api.Node{ret}, []api.Node{ret})}},
	} {
		right(t, unit(fork(2, nil, l...), ret), l)
	}
	for _, l := range [][][]api.Node{
		{yield(), nil}, {{}, yield()}, {{num(4)}, yield()}, {yield(), {end(api.NYield), end(api.NYield)}},
		{yield(0), yield()}, {yield(), yield(0)}, {yield(), {end(api.NYield), ret}}, {yield(), {ret, end(api.NYield)}},
		{yield(), {end(api.NNext)}}, {yield(), {end(api.NLeave)}}, {{num(4), end(api.NYield)}, {num(4), end(api.NYield)}},
		{{num(4), end(api.NYield)}, {end(api.NReturn, 4)}},
		{yield(), {loop(nil, nil, nil, end(api.NYield))}},
		{yield(), {loop(nil, nil, nil, end(api.NLeave))}},
		{yield(), {{Kind: api.NYield, Outs: vs(4)}}},
	} {
		wrong(t, unit(fork(2, nil, l...), ret), 2, l)
		wrong(t, unit(fork(2, nil, l[1], l[0]), ret), 2, "the other way round", l)
	}
	for _, args := range [][]int{{0}, {0, 0}, {2, 0}, {0, 2, 2}, {0, 4}, {4, 2}, {0, -1}} {
		wrong(t, unit(fork(2, vs(4, 7), yield(0, 2), yield(args...)), ret), 2, "yields", args)
		wrong(t, unit(fork(2, vs(4, 7), yield(args...), []api.Node{ret}), ret), 2, "yields", args)
	}
	wrong(t, unit(fork(2, vs(4, 4), yield(0, 0), yield(0, 0)), ret), 2, "one value twice")
	wrong(t, unit(fork(2, vs(4), yield(4), yield(0)), ret), 2, "an Out in a Kid")
	wrong(t, unit(fork(2, vs(4), []api.Node{num(4), end(api.NYield, 4)}, yield(0)), ret), 2, "an Out that a Kid defines")
}

func TestH1Loops(t *testing.T) {
	round := func(next, leave []int) api.Node {
		return fork(2, nil, []api.Node{end(api.NNext, next...)}, []api.Node{end(api.NLeave, leave...)})
	}
	n := loop(vs(0, 2), vs(4, 7), vs(5), round(vs(1, 7), vs(4)))
	right(t, unit(n, end(api.NReturn, 5)))
	wrong(t, unit(n), 2, "not closed, but last")
	spoil(n, func(what string, bad api.Node) { wrong(t, unit(bad, ret), 2, what, bad) })
	for _, next := range [][]int{nil, {0}, {0, 0}, {2, 2}, {0, 2, 2}, {5, 2}, {0, 8}} {
		wrong(t, unit(loop(vs(0, 2), vs(4, 7), vs(5), round(next, vs(4))), ret), 2, "next", next)
	}
	for _, leave := range [][]int{nil, {2}, {5}, {0, 0}, {9}} {
		wrong(t, unit(loop(vs(0, 2), vs(4, 7), vs(5), round(vs(1, 7), leave)), ret), 2, "leave", leave)
	}
	for _, params := range [][]int{{4, 4}, {4, 5}, {7, 4}, {4, 2}, {4, -1}, {4, 9}, {4}, {4, 7, 8}, {5, 7}} {
		wrong(t, unit(loop(vs(0, 2), params, vs(5), round(vs(1, 2), vs(0))), ret), 2, "params", params)
	}
	leave := end(api.NLeave)
	inner := loop(vs(1), vs(4), vs(5), round(vs(4), vs(4)))
	right(t, unit(loop(nil, nil, vs(6, 7), inner, round(nil, vs(5, 3))), end(api.NReturn, 6)), "a loop in a loop")
	right(t, unit(loop(nil, nil, nil, leave), ret), "a loop that is left at once")
	right(t, unit(loop(nil, nil, nil, fork(2, nil, yield(), []api.Node{fork(3, nil, yield(), []api.Node{leave}), ret}), ret), ret), "a leave deep in Ifs")
	for _, l := range [][]api.Node{
		{loop(nil, nil, nil), ret},
		{loop(nil, nil, nil, num(4)), ret},
		{loop(nil, nil, nil, leave, leave), ret},
		{loop(nil, nil, nil, end(api.NYield)), ret},
		{loop(vs(4), vs(4), nil, end(api.NLeave)), ret},
		{loop(nil, nil, nil, num(4), leave), end(api.NReturn, 4)},
		{loop(vs(0), vs(4), nil, leave), end(api.NReturn, 4)},
		{loop(nil, nil, vs(4), end(api.NLeave, 4)), ret},
		{loop(nil, nil, nil, loop(nil, nil, nil, leave)), ret},
		{loop(nil, nil, nil, loop(nil, nil, nil, leave), end(api.NNext)), ret},
		{loop(nil, nil, nil, inner, round(nil, nil)), end(api.NReturn, 5)},
		{loop(nil, nil, nil, inner, fork(2, nil, []api.Node{end(api.NNext, 4)}, []api.Node{leave})), ret},
	} {
		wrong(t, unit(l...), 2, l)
	}
}

func TestH1Scopes(t *testing.T) {
	print4 := end(api.NPrint, 4)
	right(t, unit(num(4), fork(2, nil, []api.Node{print4, loop(nil, nil, nil, print4, end(api.NLeave)), end(api.NYield)}, yield()), print4, ret), "used deep inside")
	for _, l := range [][]api.Node{
		{print4, num(4), ret},
		{num(4), num(4), ret},
		{{Kind: api.NOne, Op: api.Neg, Args: vs(4), Outs: vs(4)}, ret},
		{fork(2, nil, []api.Node{num(4), end(api.NYield)}, []api.Node{print4, end(api.NYield)}), ret},
		{fork(2, nil, []api.Node{num(4), end(api.NYield)}, yield()), print4, ret},
		{fork(2, nil, []api.Node{num(4), end(api.NYield)}, yield()), num(4), ret},
		{num(4), fork(2, nil, []api.Node{num(4), end(api.NYield)}, yield()), ret},
		{fork(2, nil, []api.Node{print4, end(api.NYield)}, yield()), num(4), ret},
		{fork(2, vs(4), yield(0), []api.Node{loop(nil, nil, nil, end(api.NLeave)), end(api.NYield, 4)}), ret},
	} {
		wrong(t, unit(l...), 2, l)
	}
	u := unit(ret)
	u.Flows[0].Body = []api.Node{{Kind: api.NTruth, Outs: vs(1)}, end(api.NReturn, 1)}
	wrong(t, u, 0, "a parameter that is defined")
	u.Flows[0].Body = []api.Node{end(api.NReturn, 1)}
	right(t, u, "a parameter that is returned")
	u.Flows[0].Body = []api.Node{end(api.NReturn, 2)}
	wrong(t, u, 0, "a value that is no parameter")
}

// TestR3Check makes sure that what is behind the ends of slices is not touched
// and makes no difference.
func TestR3Check(t *testing.T) {
	for seed := range 300 {
		u := sample.Unit(seed)
		for i := range u.Flows {
			f := &u.Flows[i]
			f.Types = append(f.Types, -5)[:len(f.Types)]
			f.Body = append(f.Body, api.Node{Kind: -5})[:len(f.Body)]
			sample.Each(f.Body, func(n *api.Node) {
				n.Args = append(n.Args, -5)[:len(n.Args)]
				n.Outs = append(n.Outs, -5)[:len(n.Outs)]
				n.Params = append(n.Params, -5)[:len(n.Params)]
				n.Kids = append(n.Kids, nil)[:len(n.Kids)]
			})
		}
		before := sample.Copy(u)
		if e, i := shape.Check(u); e != api.OK || i != 0 || !reflect.DeepEqual(u, before) {
			t.Fatalf("R3: seed %d: %d %d", seed, e, i)
		}
		for _, f := range u.Flows {
			if f.Types[:len(f.Types)+1][len(f.Types)] != -5 || f.Body[:len(f.Body)+1][len(f.Body)].Kind != -5 {
				t.Fatalf("R3: seed %d: behind the end", seed)
			}
			sample.Each(f.Body, func(n *api.Node) {
				for _, l := range [][]int{n.Args, n.Outs, n.Params} {
					if l[:len(l)+1][len(l)] != -5 {
						t.Fatalf("R3: seed %d: behind the end of %v", seed, *n)
					}
				}
			})
		}
	}
}
