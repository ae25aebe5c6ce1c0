package shape_test

import (
	"slices"

	"boxhedge/api"
	"boxhedge/token"
)

// spot is a node with the nodes that it stands in: the indices in their lists,
// and between them those of the Kids, from the outside to the inside.
type spot struct {
	node api.Node
	path []int
	last bool
	in   []api.Node // the nodes around it, from the outside to the inside
}

func spots(l []api.Node, path []int, in []api.Node) []spot {
	var all []spot
	for i, n := range l {
		s := spot{n, append(slices.Clone(path), i), i == len(l)-1, in}
		all = append(all, s)
		for k, kid := range n.Kids {
			all = append(all, spots(kid, append(slices.Clone(s.path), k), append(slices.Clone(in), n))...)
		}
	}
	return all
}

func wantClosed(n api.Node) bool {
	switch {
	case n.Kind == api.NIf:
		return len(n.Kids) == 2 && !slices.ContainsFunc(n.Kids, func(kid []api.Node) bool {
			return len(kid) > 0 && kid[len(kid)-1].Kind == api.NYield
		})
	case n.Kind == api.NLoop:
		return len(n.Kids) == 1 && !wantLeave(n.Kids[0])
	}
	return n.Kind >= api.NYield && n.Kind <= api.NReturn
}

func wantLeave(l []api.Node) bool {
	return slices.ContainsFunc(l, func(n api.Node) bool {
		return n.Kind == api.NLeave || n.Kind == api.NIf && slices.ContainsFunc(n.Kids, wantLeave)
	})
}

// where is the nodes that define a value, and how often it is defined.
func where(f api.Flow, all []spot, v int) (outs, params []spot, times int) {
	if v < f.Params {
		times++
	}
	for _, s := range all {
		for _, x := range s.node.Outs {
			if x == v {
				outs, times = append(outs, s), times+1
			}
		}
		for _, x := range s.node.Params {
			if x == v {
				params, times = append(params, s), times+1
			}
		}
	}
	return outs, params, times
}

// usable tells whether the node at a spot may use a value.
func usable(f api.Flow, all []spot, at spot, v int) bool {
	if v < f.Params {
		return true
	}
	outs, params, _ := where(f, all, v)
	for _, s := range outs {
		k := len(s.path) - 1
		if len(at.path) > k && slices.Equal(at.path[:k], s.path[:k]) && s.path[k] < at.path[k] {
			return true
		}
	}
	for _, s := range params {
		if len(at.path) > len(s.path) && slices.Equal(at.path[:len(s.path)], s.path) {
			return true
		}
	}
	return false
}

// rule is what the table of the chapter says of a node.
type rule struct {
	args, outs             []int // types, 0 for any
	op, n, name, params    bool
	kids                   int
	known, anyOuts, equals bool // equals: both Args have one type
}

func ruleOf(u api.Unit, f api.Flow, at spot) rule {
	n := at.node
	switch n.Kind {
	case api.NNum:
		return rule{outs: []int{api.Int}, n: true, known: true}
	case api.NTruth:
		return rule{outs: []int{api.Bool}, n: true, known: n.N == 0 || n.N == 1}
	case api.NOne:
		t := api.Int
		if n.Op == api.Not {
			t = api.Bool
		}
		return rule{args: []int{t}, outs: []int{t}, op: true, known: n.Op >= api.Neg && n.Op <= api.U32}
	case api.NTwo:
		r := rule{args: []int{api.Int, api.Int}, outs: []int{api.Int}, op: true, known: n.Op >= api.Add && n.Op <= api.Ne}
		if n.Op >= api.Lt {
			r.outs[0] = api.Bool
		}
		if n.Op >= api.Eq {
			r.args, r.equals = []int{0, 0}, true
		}
		return r
	case api.NLoad:
		return rule{args: []int{api.Int}, outs: []int{api.Int}, name: true, known: slices.ContainsFunc(u.Arrays, func(a api.Array) bool { return a.Name == n.Name })}
	case api.NStore:
		return rule{args: []int{api.Int, api.Int}, name: true, known: slices.ContainsFunc(u.Arrays, func(a api.Array) bool { return a.Name == n.Name })}
	case api.NCall:
		i := slices.IndexFunc(u.Flows, func(g api.Flow) bool { return g.Name == n.Name })
		if i < 0 {
			return rule{}
		}
		return rule{args: u.Flows[i].Types[:u.Flows[i].Params], outs: []int{u.Flows[i].Type}, name: true, known: true}
	case api.NRead:
		return rule{outs: []int{api.Int}, known: true}
	case api.NPrint:
		return rule{args: []int{api.Int}, known: true}
	case api.NIf:
		return rule{args: []int{api.Bool}, anyOuts: true, kids: 2, known: true}
	case api.NLoop:
		return rule{args: typesOf(f, n.Params), params: true, anyOuts: true, kids: 1, known: true}
	}
	return ruleOfEnd(f, at)
}

func ruleOfEnd(f api.Flow, at spot) rule {
	var loop *api.Node
	for _, n := range at.in {
		if n.Kind == api.NLoop {
			loop = &n
		}
	}
	switch k := at.node.Kind; {
	case k == api.NYield && len(at.in) > 0 && at.in[len(at.in)-1].Kind == api.NIf:
		return rule{args: typesOf(f, at.in[len(at.in)-1].Outs), known: at.last}
	case k == api.NNext && loop != nil:
		return rule{args: typesOf(f, loop.Params), known: true}
	case k == api.NLeave && loop != nil:
		return rule{args: typesOf(f, loop.Outs), known: true}
	case k == api.NReturn:
		return rule{args: []int{f.Type}, known: true}
	}
	return rule{}
}

// typesOf is the types of values, -1 for one that is not there.
func typesOf(f api.Flow, values []int) []int {
	var l []int
	for _, v := range values {
		t := -1
		if v >= 0 && v < len(f.Types) {
			t = f.Types[v]
		}
		l = append(l, t)
	}
	return l
}

func fits(got, want []int) bool {
	return slices.EqualFunc(got, want, func(g, w int) bool { return g > 0 && (w == 0 || g == w) })
}

func wantNode(u api.Unit, f api.Flow, all []spot, at spot) bool {
	n, r := at.node, ruleOf(u, f, at)
	if !r.known || len(at.in) >= api.MaxDepth || wantClosed(n) != at.last {
		return false
	}
	if !r.op && n.Op != 0 || !r.n && n.N != 0 || !r.name && n.Name != "" || !r.params && len(n.Params) > 0 || len(n.Kids) != r.kids {
		return false
	}
	if slices.ContainsFunc(n.Kids, func(kid []api.Node) bool { return len(kid) == 0 }) {
		return false
	}
	args, outs := typesOf(f, n.Args), typesOf(f, n.Outs)
	if !fits(args, r.args) || r.equals && args[0] != args[1] || !r.anyOuts && !fits(outs, r.outs) || r.anyOuts && wantClosed(n) && len(n.Outs) > 0 {
		return false
	}
	for _, v := range n.Args {
		if !usable(f, all, at, v) {
			return false
		}
	}
	for _, v := range slices.Concat(n.Outs, n.Params) {
		_, _, times := where(f, all, v)
		if v < 0 || v >= len(f.Types) || times != 1 {
			return false
		}
	}
	return true
}

func badType(t int) bool { return t != api.Int && t != api.Bool }

func wantFlow(u api.Unit, f api.Flow) bool {
	if f.Params > 8 || len(f.Types) > 20000 || slices.ContainsFunc(f.Types, badType) || len(f.Body) == 0 {
		return false
	}
	all := spots(f.Body, nil, nil)
	return !slices.ContainsFunc(all, func(at spot) bool { return !wantNode(u, f, all, at) })
}

// wantCheck is what Check should answer, by the words of H1 one by one.
func wantCheck(u api.Unit) (api.Errno, int) {
	names, main := map[string]int{}, false
	for _, a := range u.Arrays {
		names[a.Name]++
		if !token.Name(a.Name) || a.Size < 1 || a.Size > 1000 {
			return api.ErrArg, 0
		}
	}
	for _, f := range u.Flows {
		names[f.Name]++
		if !token.Name(f.Name) || badType(f.Type) || f.Params < 0 || f.Params > len(f.Types) {
			return api.ErrArg, 0
		}
		main = main || f.Name == "main" && f.Type == api.Int && f.Params == 0
	}
	for _, times := range names {
		if times > 1 {
			return api.ErrArg, 0
		}
	}
	if !main {
		return api.ErrArg, 0
	}
	for i, f := range u.Flows {
		if !wantFlow(u, f) {
			return api.ErrForm, i
		}
	}
	return api.OK, 0
}
