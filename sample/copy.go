package sample

import (
	"slices"

	"boxhedge/api"
)

// Copy is a unit that is like u and shares no memory with it.
func Copy(u api.Unit) api.Unit {
	c := api.Unit{Arrays: slices.Clone(u.Arrays), Flows: slices.Clone(u.Flows)}
	for i, f := range c.Flows {
		c.Flows[i].Types = slices.Clone(f.Types)
		c.Flows[i].Body = CopyNodes(f.Body)
	}
	return c
}

// CopyNodes is a list of nodes that is like l and shares no memory with it.
func CopyNodes(l []api.Node) []api.Node {
	l = slices.Clone(l)
	for i, n := range l {
		l[i].Args, l[i].Outs, l[i].Params = slices.Clone(n.Args), slices.Clone(n.Outs), slices.Clone(n.Params)
		l[i].Kids = slices.Clone(n.Kids)
		for j, kid := range n.Kids {
			l[i].Kids[j] = CopyNodes(kid)
		}
	}
	return l
}

// Each does f with each node of a list, those in Kids included. A node comes
// before its Kids.
func Each(l []api.Node, f func(n *api.Node)) {
	for i := range l {
		f(&l[i])
		for _, kid := range l[i].Kids {
			Each(kid, f)
		}
	}
}

// Renumber is u with other numbers of its values, but for the parameters of
// its flows.
func Renumber(u api.Unit, seed int) api.Unit {
	s := From(seed)
	u = Copy(u)
	for i, f := range u.Flows {
		to := make([]int, len(f.Types))
		for v := range f.Params {
			to[v] = v
		}
		for j, v := range s.Shuffled(len(f.Types) - f.Params) {
			to[f.Params+j] = f.Params + v
		}
		types := make([]int, len(f.Types))
		for v, t := range f.Types {
			types[to[v]] = t
		}
		u.Flows[i].Types = types
		Each(f.Body, func(n *api.Node) {
			for _, l := range [][]int{n.Args, n.Outs, n.Params} {
				for k, v := range l {
					l[k] = to[v]
				}
			}
		})
	}
	return u
}
