package sample_test

import (
	"reflect"
	"testing"

	"boxhedge/api"
	"boxhedge/sample"
	"boxhedge/shape"
)

// TestUnit makes sure that the units are valid and have what there can be.
func TestUnit(t *testing.T) {
	kinds, ops, calls := map[int]int{}, map[int]int{}, map[string]int{}
	for seed := range 3000 {
		u := sample.Unit(seed)
		if e, i := shape.Check(u); e != api.OK {
			t.Fatalf("seed %d: %d %d", seed, e, i)
		}
		for _, f := range u.Flows {
			sample.Each(f.Body, func(n *api.Node) {
				kinds[n.Kind]++
				ops[n.Op]++
				calls[n.Name]++
			})
		}
	}
	for kind := api.NNum; kind <= api.NReturn; kind++ {
		if kinds[kind] < 1000 {
			t.Errorf("kind %d: %d times", kind, kinds[kind])
		}
	}
	for op := api.Add; op <= api.U32; op++ {
		if (op == api.Both || op == api.Either) != (ops[op] == 0) {
			t.Errorf("operator %d: %d times", op, ops[op])
		}
	}
	for _, name := range []string{"a", "b", "main", "f", "g", "h"} {
		if calls[name] == 0 {
			t.Errorf("%s is not there", name)
		}
	}
}

func TestSame(t *testing.T) {
	for seed := range 100 {
		u := sample.Unit(seed)
		if !reflect.DeepEqual(u, sample.Unit(seed)) {
			t.Fatalf("seed %d: two units", seed)
		}
		c := sample.Copy(u)
		if !reflect.DeepEqual(u, c) {
			t.Fatalf("seed %d: the copy is not like it", seed)
		}
		v := sample.Renumber(u, seed)
		if !reflect.DeepEqual(u, c) {
			t.Fatalf("seed %d: Renumber changed it", seed)
		}
		if e, i := shape.Check(v); e != api.OK {
			t.Fatalf("seed %d: renumbered: %d %d", seed, e, i)
		}
	}
}
