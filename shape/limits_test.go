package shape_test

import (
	"testing"

	"boxhedge/api"
	"boxhedge/shape"
)

// nest is a list whose innermost node, a NReturn, has that depth.
func nest(depth int, kind func(depth int) bool) []api.Node {
	l := []api.Node{ret}
	for d := depth - 1; d >= 1; d-- {
		if kind(d) {
			l = []api.Node{loop(nil, nil, nil, l...)}
		} else {
			l = []api.Node{fork(2, nil, l, yield()), ret}
		}
	}
	return l
}

func TestH1Depth(t *testing.T) {
	for _, kind := range []func(int) bool{
		func(int) bool { return true },
		func(int) bool { return false },
		func(d int) bool { return d%2 == 0 },
	} {
		for depth := 98; depth <= 103; depth++ {
			u := unit(nest(depth, kind)...)
			if depth <= api.MaxDepth {
				right(t, u, "depth", depth)
			} else {
				wrong(t, u, 2, "depth", depth)
			}
		}
	}
	// Only the second Kid is deep.
	deep := nest(99, func(int) bool { return true })
	right(t, unit(fork(2, nil, yield(), deep), ret), "depth 100")
	deep = nest(100, func(int) bool { return true })
	wrong(t, unit(fork(2, nil, yield(), deep), ret), 2, "depth 101")
}

// TestH1Endless has nodes that stand in themselves.
func TestH1Endless(t *testing.T) {
	l := []api.Node{{}}
	l[0] = loop(nil, nil, nil, l...)
	l[0].Kids[0] = l
	wrong(t, unit(l...), 2, "a loop in itself")
	l = []api.Node{{}, ret}
	l[0] = fork(2, nil, l, l)
	wrong(t, unit(l...), 2, "an If in itself")
}

// TestDeep has nodes far beyond the limit of depth: no call may fail for it.
func TestDeep(t *testing.T) {
	const depth = 300000
	l := nest(depth, func(d int) bool { return d%3 == 0 })
	wrong(t, unit(l...), 2, "very deep")
	loops := (depth - 1) / 3
	if n, want := shape.Size(l), 1+loops+3*(depth-1-loops); n != want {
		t.Errorf("H2: Size is %d, want %d", n, want)
	}
	ifs := []api.Node{end(api.NLeave)}
	for range depth {
		ifs = []api.Node{fork(2, nil, ifs, yield()), ret}
	}
	if shape.Closed(loop(nil, nil, nil, ifs...)) {
		t.Error("H2: a loop that is left from very deep inside is closed")
	}
	wrong(t, unit(loop(nil, nil, nil, ifs...), ret), 2, "very deep")
}

// TestLong has the greatest flows, which are to be checked soon.
func TestLong(t *testing.T) {
	u := unit(ret)
	f := &u.Flows[2]
	for len(f.Types) < api.MaxValues {
		f.Types = append(f.Types, api.Int)
	}
	var l []api.Node
	for v := len(types); v < api.MaxValues; v++ {
		l = append(l, fork(2, nil, []api.Node{num(v), end(api.NYield)}, yield()))
	}
	f.Body = append(f.Body[:4:4], append(l, ret)...)
	right(t, u, "many forks")
	f.Body = append(f.Body[:len(f.Body)-1:len(f.Body)-1], end(api.NReturn, len(types)))
	wrong(t, u, 2, "many forks and a value that is gone")
	var many []int
	for v := len(types); v < api.MaxValues; v++ {
		many = append(many, v)
	}
	f.Body = append(f.Body[:4:4], loop(make([]int, len(many)), many, nil, end(api.NNext, many...)))
	right(t, u, "many params")
	f.Body[4].Params = append(many[1:], many[1])
	wrong(t, u, 2, "many params, one of them twice")
}

func TestH2(t *testing.T) {
	leave := []api.Node{end(api.NLeave)}
	rets := []api.Node{ret}
	for _, n := range []api.Node{
		end(api.NYield), end(api.NNext), end(api.NLeave), ret, {Kind: api.NReturn},
		fork(2, nil, rets, rets), fork(2, nil, rets, leave), fork(2, nil, nil, nil), fork(2, nil, rets, []api.Node{}),
		fork(2, nil, []api.Node{end(api.NYield), ret}, rets), fork(2, nil, []api.Node{fork(2, nil, yield(), yield())}, rets),
		loop(nil, nil, nil), loop(nil, nil, nil, ret), loop(nil, nil, nil, loop(nil, nil, nil, leave...)),
		loop(nil, nil, nil, fork(2, nil, rets, []api.Node{loop(nil, nil, nil, leave...)})),
		loop(nil, nil, nil, api.Node{Kind: api.NPrint, Kids: kids(leave)}),
		{Kind: api.NReturn, Kids: kids(yield(), yield())},
	} {
		if !shape.Closed(n) {
			t.Errorf("H2: not closed: %v", n)
		}
	}
	for _, n := range []api.Node{
		{}, {Kind: -1}, {Kind: 16}, num(4), end(api.NPrint, 0), {Kind: api.NCall, Name: "f"},
		{Kind: api.NIf}, fork(2, nil, rets), fork(2, nil, rets, rets, rets), {Kind: api.NLoop},
		{Kind: api.NLoop, Kids: kids(rets, rets)}, {Kind: api.NPrint, Kids: kids(rets, rets)},
		fork(2, nil, yield(), rets), fork(2, nil, rets, yield()), fork(2, nil, yield(), yield()), fork(2, nil, nil, []api.Node{num(4), end(api.NYield)}),
		loop(nil, nil, nil, leave...), loop(nil, nil, nil, end(api.NLeave), ret),
		loop(nil, nil, nil, fork(2, nil, leave, rets)), loop(nil, nil, nil, fork(2, nil, rets, leave)),
		loop(nil, nil, nil, fork(2, nil, rets, []api.Node{fork(2, nil, leave, rets), ret}), ret),
		loop(nil, nil, nil, fork(2, nil, rets, rets, leave)), loop(nil, nil, nil, fork(2, nil, leave)),
	} {
		if shape.Closed(n) {
			t.Errorf("H2: closed: %v", n)
		}
	}
	for want, l := range [][]api.Node{
		nil,
		rets,
		{loop(nil, nil, nil, ret)},
		{fork(2, nil, rets, yield())},
		{fork(2, nil, rets, yield()), ret},
		{num(4), loop(nil, nil, nil, fork(2, nil, leave, rets))},
		{{Kind: -7, Kids: kids(rets, nil, rets, rets)}, {Kind: api.NIf}, {Kind: api.NLoop}},
	} {
		if n := shape.Size(l); n != want {
			t.Errorf("H2: Size is %d, want %d", n, want)
		}
	}
	if n := shape.Size([]api.Node{}); n != 0 {
		t.Errorf("H2: Size of an empty list is %d", n)
	}
}
