package shape_test

import (
	"reflect"
	"slices"
	"testing"

	"boxhedge/api"
	"boxhedge/sample"
	"boxhedge/shape"
)

// lists are the lists of nodes of a flow.
func lists(f *api.Flow) []*[]api.Node {
	all := []*[]api.Node{&f.Body}
	sample.Each(f.Body, func(n *api.Node) {
		for i := range n.Kids {
			all = append(all, &n.Kids[i])
		}
	})
	return all
}

// edge is a number that often does not fit.
func edge(s *sample.Source, n int) int {
	return []int{-1, 0, 1, 2, 3, n - 1, n, n + 1, s.Below(n + 1), s.Below(n + 1), s.Below(n + 1)}[s.Below(11)]
}

// changeValues changes one number in a list of values, or its length.
func changeValues(s *sample.Source, l []int, n int) []int {
	l = slices.Clone(l)
	switch k := s.Below(6); {
	case k == 0:
		return append(l, edge(s, n))
	case k == 1 && len(l) > 0:
		return l[1:]
	case k == 2 && len(l) > 1:
		l[0], l[1] = l[1], l[0]
	case len(l) > 0:
		l[s.Below(len(l))] = edge(s, n)
	}
	return l
}

func changeNode(s *sample.Source, f *api.Flow, n *api.Node) {
	switch s.Below(10) {
	case 0:
		n.Kind = s.Below(18) - 1
	case 1:
		n.Op = s.Below(31) - 1
	case 2:
		n.N = edge(s, 2)
	case 3:
		n.Name = []string{"", "a", "b", "f", "g", "main", "nobody"}[s.Below(7)]
	case 4, 5:
		n.Args = changeValues(s, n.Args, len(f.Types))
	case 6, 7:
		n.Outs = changeValues(s, n.Outs, len(f.Types))
	case 8:
		n.Params = changeValues(s, n.Params, len(f.Types))
	case 9:
		switch k := len(n.Kids); {
		case k == 0 || s.Once(3):
			n.Kids = append(slices.Clone(n.Kids), []api.Node{{Kind: api.NYield}})
		default:
			n.Kids = n.Kids[:k-1]
		}
	}
}

func changeList(s *sample.Source, f *api.Flow) {
	all := lists(f)
	l := all[s.Below(len(all))]
	if len(*l) == 0 {
		return
	}
	i := s.Below(len(*l))
	n := sample.CopyNodes(*l)[i]
	switch s.Below(5) {
	case 0:
		*l = slices.Delete(slices.Clone(*l), i, i+1)
	case 1:
		*l = slices.Insert(slices.Clone(*l), s.Below(len(*l)+1), n)
	case 2:
		j := s.Below(len(*l))
		(*l)[i], (*l)[j] = (*l)[j], (*l)[i]
	case 3:
		other := all[s.Below(len(all))]
		*other = slices.Insert(slices.Clone(*other), s.Below(len(*other)+1), n)
	case 4:
		*l = (*l)[:i]
	}
}

func changeUnit(s *sample.Source, u *api.Unit) {
	f := &u.Flows[s.Below(len(u.Flows))]
	switch s.Below(40) {
	case 0:
		f.Name = []string{"", "a", "b", "f", "int", "main"}[s.Below(6)]
	case 1:
		f.Type = s.Below(5) - 1
	case 2:
		f.Params = edge(s, len(f.Types))
	case 3:
		f.Types = append(f.Types, s.Below(5)-1)
	case 4:
		f.Types = f.Types[:max(len(f.Types)-1, 0)]
	case 5, 6:
		if len(f.Types) > 0 {
			f.Types[s.Below(len(f.Types))] = s.Below(5) - 1
		}
	case 7:
		u.Arrays = u.Arrays[:1]
	case 8:
		u.Arrays[0].Size = edge(s, 1000)
	case 9:
		u.Flows = append(u.Flows, sample.Copy(*u).Flows[0])
	case 10, 11, 12, 13, 14, 15, 16, 17:
		changeList(s, f)
	default:
		var all []*api.Node
		sample.Each(f.Body, func(n *api.Node) { all = append(all, n) })
		if len(all) > 0 {
			changeNode(s, f, all[s.Below(len(all))])
		}
	}
}

// TestH1Random holds Check against the oracle, for units of which most are not
// valid.
func TestH1Random(t *testing.T) {
	count := map[api.Errno]int{}
	second := 0
	for seed := range 12000 {
		u, s := sample.Unit(seed), sample.From(seed)
		for range 1 + s.Below(2) {
			changeUnit(s, &u)
		}
		before := sample.Copy(u)
		e, i := shape.Check(u)
		if we, wi := wantCheck(u); e != we || i != wi {
			t.Fatalf("H1: seed %d: %d %d, want %d %d: %v", seed, e, i, we, wi, u)
		}
		if !reflect.DeepEqual(u, before) {
			t.Fatalf("R3: seed %d: Check changed its argument", seed)
		}
		if again, j := shape.Check(u); again != e || j != i {
			t.Fatalf("R4: seed %d: %d %d, then %d %d", seed, e, i, again, j)
		}
		count[e]++
		if i > 0 {
			second++
		}
	}
	if count[api.OK] < 500 || count[api.ErrArg] < 500 || count[api.ErrForm] < 5000 || second < 1000 {
		t.Errorf("the units are too much alike: %v %d", count, second)
	}
}

// TestH2Random holds Closed and Size against the oracle, for nodes of which
// many are not valid.
func TestH2Random(t *testing.T) {
	for seed := range 2000 {
		u, s := sample.Unit(seed), sample.From(seed)
		for range s.Below(4) {
			changeUnit(s, &u)
		}
		for _, f := range u.Flows {
			size := 0
			sample.Each(f.Body, func(n *api.Node) {
				size++
				if got := shape.Closed(*n); got != wantClosed(*n) {
					t.Fatalf("H2: seed %d: Closed is %v: %v", seed, got, *n)
				}
			})
			if got := shape.Size(f.Body); got != size {
				t.Fatalf("H2: seed %d: Size is %d, want %d", seed, got, size)
			}
		}
	}
}

func TestH3Renumbered(t *testing.T) {
	for seed := range 2000 {
		u := sample.Unit(seed)
		if e, i := shape.Check(sample.Renumber(u, seed+1)); e != api.OK || i != 0 {
			t.Fatalf("H3: seed %d: %d %d", seed, e, i)
		}
	}
}

// TestH3Removed removes each node by itself: where some node uses its Outs, the
// flow is not valid any more.
func TestH3Removed(t *testing.T) {
	removed := 0
	for seed := range 400 {
		u := sample.Unit(seed)
		for i := range u.Flows {
			f := &u.Flows[i]
			used := map[int]int{}
			sample.Each(f.Body, func(n *api.Node) {
				for _, v := range n.Args {
					used[v]++
				}
			})
			for _, l := range lists(f) {
				for j, n := range *l {
					if !slices.ContainsFunc(n.Outs, func(v int) bool { return used[v] > 0 }) {
						continue
					}
					whole := *l
					*l = slices.Delete(slices.Clone(whole), j, j+1)
					if e, at := shape.Check(u); e != api.ErrForm || at != i {
						t.Fatalf("H3: seed %d: %d %d without node %v", seed, e, at, n)
					}
					*l = whole
					removed++
				}
			}
		}
	}
	if removed < 5000 {
		t.Errorf("only %d nodes were removed", removed)
	}
}
