package sample

import (
	"slices"

	"boxhedge/api"
)

// Unit is a valid unit. Most of its loops end after a few rounds, most indices
// and divisors may stand where they do, and most calls end.
func Unit(seed int) api.Unit {
	m := maker{Source: From(seed)}
	m.unit.Arrays = []api.Array{{Name: "a", Size: 4}, {Name: "b", Size: 1 + m.Below(9)}}
	names := []string{"main", "f", "g", "h"}
	for i, name := range names[:1+m.Below(len(names))] {
		f := api.Flow{Name: name, Type: api.Int}
		for range m.Below(4) * min(i, 1) {
			f.Types = append(f.Types, m.typ())
			f.Type = m.typ()
		}
		f.Params = len(f.Types)
		m.unit.Flows = append(m.unit.Flows, f)
	}
	for i := range m.unit.Flows {
		m.body(i)
	}
	i := m.Below(len(m.unit.Flows))
	m.unit.Flows[0], m.unit.Flows[i] = m.unit.Flows[i], m.unit.Flows[0]
	return m.unit
}

// maker makes a unit.
type maker struct {
	*Source
	unit  api.Unit
	at    int        // the index of the flow that is made
	flow  *api.Flow  // that flow
	list  []api.Node // what is there of the list that is made
	scope []int      // the values that a node may use
	left  int        // how many more nodes, about, the flow may have
}

// place is where a list stands: what it passes on.
type place struct {
	depth       int
	fork, loop  bool
	yield       []int
	next, leave []int
	counter     int // the value that counts the rounds of the loop, or -1
}

func (m *maker) typ() int { return api.Int + m.Below(2) }

func (m *maker) types(n int) []int {
	var l []int
	for range n {
		l = append(l, m.typ())
	}
	return l
}

// number is one that is of interest.
func (m *maker) number() int {
	switch m.Below(8) {
	case 0:
		return -1
	case 1:
		return 1<<63 - 1
	case 2:
		return -1 << 63
	case 3:
		return m.Below(2000) - 1000
	}
	return m.Below(5)
}

func (m *maker) body(i int) {
	m.at, m.flow, m.scope, m.left = i, &m.unit.Flows[i], nil, 10+m.Below(50)
	for v := range m.flow.Params {
		m.scope = append(m.scope, v)
	}
	m.flow.Body = m.nodes(place{depth: 1, counter: -1}, nil)
}

// fresh is a new value.
func (m *maker) fresh(typ int) int {
	m.flow.Types = append(m.flow.Types, typ)
	v := len(m.flow.Types) - 1
	m.scope = append(m.scope, v)
	return v
}

func (m *maker) freshAll(types []int) []int {
	var l []int
	for _, t := range types {
		l = append(l, m.fresh(t))
	}
	return l
}

// put adds a node that defines a value.
func (m *maker) put(n api.Node, typ int) int {
	m.left--
	v := m.fresh(typ)
	n.Outs = []int{v}
	m.list = append(m.list, n)
	return v
}

// act adds a node that defines no value.
func (m *maker) act(n api.Node) {
	m.left--
	m.list = append(m.list, n)
}

func (m *maker) constant(typ int) int {
	if typ == api.Bool {
		return m.put(api.Node{Kind: api.NTruth, N: m.Below(2)}, api.Bool)
	}
	return m.put(api.Node{Kind: api.NNum, N: m.number()}, api.Int)
}

func (m *maker) two(op, a, b, typ int) int {
	return m.put(api.Node{Kind: api.NTwo, Op: op, Args: []int{a, b}}, typ)
}

// value is one of a type that may be used: mostly one that is there.
func (m *maker) value(typ int) int {
	var l []int
	for _, v := range m.scope {
		if m.flow.Types[v] == typ {
			l = append(l, v)
		}
	}
	if len(l) == 0 || m.Once(8) {
		return m.constant(typ)
	}
	if m.Once(2) {
		l = l[len(l)/2:]
	}
	return l[m.Below(len(l))]
}

func (m *maker) values(types []int) []int {
	var l []int
	for _, t := range types {
		l = append(l, m.value(t))
	}
	return l
}

// nodes makes a list; first, unless it is nil, begins it.
func (m *maker) nodes(p place, first func()) []api.Node {
	around, outer := m.list, len(m.scope)
	m.list = nil
	if first != nil {
		first()
	}
	ended := false
	for range m.Below(7) {
		if m.left > 0 && !ended {
			ended = m.node(p)
		}
	}
	if !ended {
		m.end(p)
	}
	l := m.list
	m.list, m.scope = around, m.scope[:outer]
	return l
}

// node adds some node, maybe with others that it needs. It is true if it ends
// the list.
func (m *maker) node(p place) bool {
	if p.depth < 5 && m.Once(4) {
		if m.Once(2) {
			return m.fork(p)
		}
		return m.loop(p)
	}
	switch m.Below(8) {
	case 0, 1, 2:
		m.operation()
	case 3:
		m.memory()
	case 4:
		m.call()
	case 5:
		m.act(api.Node{Kind: api.NPrint, Args: []int{m.value(api.Int)}})
	case 6:
		m.again()
	case 7:
		m.put(api.Node{Kind: api.NRead}, api.Int)
	}
	return false
}

func (m *maker) operation() {
	op := api.Add + m.Below(api.U32)
	switch {
	case op == api.Not:
		m.put(api.Node{Kind: api.NOne, Op: op, Args: []int{m.value(api.Bool)}}, api.Bool)
	case op >= api.Neg:
		m.put(api.Node{Kind: api.NOne, Op: op, Args: []int{m.value(api.Int)}}, api.Int)
	case op == api.Both || op == api.Either:
		m.constant(m.typ())
	case op == api.Eq || op == api.Ne:
		t := m.typ()
		m.two(op, m.value(t), m.value(t), api.Bool)
	case op >= api.Lt:
		m.two(op, m.value(api.Int), m.value(api.Int), api.Bool)
	default:
		b := m.value(api.Int)
		if (op == api.Div || op == api.Rem) && !m.Once(8) {
			b = m.two(api.Or, b, m.put(api.Node{Kind: api.NNum, N: 1}, api.Int), api.Int)
		}
		m.two(op, m.value(api.Int), b, api.Int)
	}
}

// memory adds a node with an array, mostly with an index that is there.
func (m *maker) memory() {
	a := m.unit.Arrays[m.Below(2)]
	i := m.value(api.Int)
	if !m.Once(8) {
		i = m.put(api.Node{Kind: api.NNum, N: m.Below(a.Size)}, api.Int)
	}
	if m.Once(2) {
		m.put(api.Node{Kind: api.NLoad, Name: a.Name, Args: []int{i}}, api.Int)
		return
	}
	m.act(api.Node{Kind: api.NStore, Name: a.Name, Args: []int{i, m.value(api.Int)}})
}

// call adds a call, mostly of a flow that does not lead back to this one.
func (m *maker) call() {
	i := m.at + 1
	if m.Once(16) {
		i = 0
	}
	if i >= len(m.unit.Flows) {
		return
	}
	f := m.unit.Flows[i+m.Below(len(m.unit.Flows)-i)]
	m.put(api.Node{Kind: api.NCall, Name: f.Name, Args: m.values(f.Types[:f.Params])}, f.Type)
}

// again repeats a node of the list that defines a value.
func (m *maker) again() {
	for range 4 {
		if len(m.list) == 0 {
			return
		}
		n := m.list[m.Below(len(m.list))]
		if n.Kind <= api.NLoad && len(n.Outs) == 1 {
			n.Args = slices.Clone(n.Args)
			m.put(n, m.flow.Types[n.Outs[0]])
			return
		}
	}
}

// fork adds an NIf. It is true if that ends the list.
func (m *maker) fork(p place) bool {
	p.depth, p.fork, p.yield = p.depth+1, true, m.types(m.Below(4))
	n := api.Node{Kind: api.NIf, Args: []int{m.value(api.Bool)}}
	n.Kids = [][]api.Node{m.nodes(p, nil), m.nodes(p, nil)}
	if !yields(n.Kids[0]) && !yields(n.Kids[1]) {
		m.act(n)
		return true
	}
	n.Outs = m.freshAll(p.yield)
	m.act(n)
	return false
}

func yields(l []api.Node) bool { return l[len(l)-1].Kind == api.NYield }

// loop adds an NLoop. It is true if that ends the list.
func (m *maker) loop(p place) bool {
	p = place{depth: p.depth + 1, loop: true, next: m.types(m.Below(4)), leave: m.types(m.Below(4)), counter: -1}
	counted := !m.Once(8)
	var n api.Node
	if counted {
		zero := m.put(api.Node{Kind: api.NNum}, api.Int)
		n.Args = append([]int{zero}, m.values(p.next)...)
		p.next = append([]int{api.Int}, p.next...)
	} else {
		n.Args = m.values(p.next)
	}
	outer := len(m.scope)
	n.Kind, n.Params = api.NLoop, m.freshAll(p.next)
	var first func()
	if counted {
		p.counter = n.Params[0]
		if !m.Once(4) {
			first = func() { m.bound(p) }
		}
	}
	n.Kids = [][]api.Node{m.nodes(p, first)}
	m.scope = m.scope[:outer]
	if !leaves(n.Kids[0]) {
		m.act(n)
		return true
	}
	n.Outs = m.freshAll(p.leave)
	m.act(n)
	return false
}

func leaves(l []api.Node) bool {
	for _, n := range l {
		if n.Kind == api.NLeave || n.Kind == api.NIf && (leaves(n.Kids[0]) || leaves(n.Kids[1])) {
			return true
		}
	}
	return false
}

// bound adds an NIf that leaves the loop after some rounds.
func (m *maker) bound(p place) {
	few := m.put(api.Node{Kind: api.NNum, N: m.Below(5)}, api.Int)
	going := m.two(api.Lt, p.counter, few, api.Bool)
	yield := []api.Node{{Kind: api.NYield}}
	m.act(api.Node{Kind: api.NIf, Args: []int{going}, Kids: [][]api.Node{yield, m.leave(p)}})
}

// leave makes a list that leaves the loop.
func (m *maker) leave(p place) []api.Node {
	return m.only(func() { m.act(api.Node{Kind: api.NLeave, Args: m.values(p.leave)}) })
}

// next makes a list that begins the next round of the loop.
func (m *maker) next(p place) []api.Node {
	return m.only(func() { m.act(api.Node{Kind: api.NNext, Args: m.nexts(p)}) })
}

// only makes a list of what f adds.
func (m *maker) only(f func()) []api.Node {
	around, outer := m.list, len(m.scope)
	m.list = nil
	f()
	l := m.list
	m.list, m.scope = around, m.scope[:outer]
	return l
}

// nexts is what a round passes on to the next one.
func (m *maker) nexts(p place) []int {
	if p.counter < 0 {
		return m.values(p.next)
	}
	one := m.put(api.Node{Kind: api.NNum, N: 1}, api.Int)
	return append([]int{m.two(api.Add, p.counter, one, api.Int)}, m.values(p.next[1:])...)
}

// end adds what ends a list.
func (m *maker) end(p place) {
	switch {
	case p.fork && !m.Once(4):
		m.act(api.Node{Kind: api.NYield, Args: m.values(p.yield)})
	case p.loop && p.counter >= 0 && m.Once(4):
		few := m.put(api.Node{Kind: api.NNum, N: m.Below(5)}, api.Int)
		going := m.two(api.Lt, p.counter, few, api.Bool)
		m.act(api.Node{Kind: api.NIf, Args: []int{going}, Kids: [][]api.Node{m.next(p), m.leave(p)}})
	case p.loop && !m.Once(3):
		m.act(api.Node{Kind: api.NNext, Args: m.nexts(p)})
	case p.loop && !m.Once(3):
		m.act(api.Node{Kind: api.NLeave, Args: m.values(p.leave)})
	default:
		m.act(api.Node{Kind: api.NReturn, Args: []int{m.value(m.flow.Type)}})
	}
}
