package shape

import "boxhedge/api"

// rightFlow tells whether a flow is valid, in a unit whose names have these
// places.
func rightFlow(u api.Unit, places map[string]int, f api.Flow) bool {
	if f.Params > api.MaxParams || len(f.Types) > api.MaxValues {
		return false
	}
	c := checker{unit: u, places: places, values: make([]value, len(f.Types))}
	for i, t := range f.Types {
		if !rightType(t) {
			return false
		}
		c.values[i].typ = t
	}
	for i := range f.Params {
		c.values[i].state = usable
	}
	return c.list(f.Body, ends{depth: 1, gives: f.Type})
}

// A value's states. One that is gone counts as defined, but no node can use it.
const (
	unset = iota
	usable
	gone
)

type value struct{ typ, state int }

// checker goes through the nodes of a flow.
type checker struct {
	unit   api.Unit
	places map[string]int
	values []value // by their numbers
	scope  []int   // the values that nodes have made usable, in their order
}

// ends is what a list is told of its ends: the types of what each passes on.
type ends struct {
	depth       int
	gives       int
	fork, loop  bool // whether there is an NIf to yield to, a loop to leave
	yield       []int
	next, leave []int
}

// list tells whether a list is valid. What it defines is gone behind it.
func (c *checker) list(l []api.Node, e ends) bool {
	outer := len(c.scope)
	for i, n := range l {
		// The depth is asked first: there may be no end to what n has in it.
		if e.depth > api.MaxDepth || !bare(n) || !c.node(n, e) {
			return false
		}
		closed := Closed(n)
		if closed != (i == len(l)-1) || closed && len(n.Outs) > 0 {
			return false
		}
	}
	c.close(outer)
	return len(l) > 0
}

// close makes all values gone that were defined since the scope had that
// length.
func (c *checker) close(outer int) {
	for _, v := range c.scope[outer:] {
		c.values[v].state = gone
	}
	c.scope = c.scope[:outer]
}

// bare tells whether a node has as many Kids as its kind names, and no other
// field that its kind does not name; of Args and Outs it tells nothing.
func bare(n api.Node) bool {
	op, number, name, params, kids := false, false, false, false, 0
	switch n.Kind {
	case api.NNum, api.NTruth:
		number = true
	case api.NOne, api.NTwo:
		op = true
	case api.NLoad, api.NStore, api.NCall:
		name = true
	case api.NIf:
		kids = 2
	case api.NLoop:
		params, kids = true, 1
	}
	return (op || n.Op == 0) && (number || n.N == 0) && (name || n.Name == "") && (params || len(n.Params) == 0) && len(n.Kids) == kids
}

// node tells whether a node that is bare is valid, but for the Outs of one that
// is closed, and defines its Outs.
func (c *checker) node(n api.Node, e ends) bool {
	switch n.Kind {
	case api.NNum, api.NRead:
		return c.uses(n.Args) && c.defines(n.Outs, api.Int)
	case api.NTruth:
		return (n.N == 0 || n.N == 1) && c.uses(n.Args) && c.defines(n.Outs, api.Bool)
	case api.NOne:
		return c.one(n)
	case api.NTwo:
		return c.two(n)
	case api.NLoad:
		return c.array(n.Name) && c.uses(n.Args, api.Int) && c.defines(n.Outs, api.Int)
	case api.NStore:
		return c.array(n.Name) && c.uses(n.Args, api.Int, api.Int) && c.defines(n.Outs)
	case api.NCall:
		return c.call(n)
	case api.NPrint:
		return c.uses(n.Args, api.Int) && c.defines(n.Outs)
	case api.NIf:
		return c.fork(n, e)
	case api.NLoop:
		return c.loop(n, e)
	}
	return c.end(n, e)
}

func (c *checker) one(n api.Node) bool {
	if n.Op == api.Not {
		return c.uses(n.Args, api.Bool) && c.defines(n.Outs, api.Bool)
	}
	return api.Neg <= n.Op && n.Op <= api.U32 && c.uses(n.Args, api.Int) && c.defines(n.Outs, api.Int)
}

func (c *checker) two(n api.Node) bool {
	ints := c.uses(n.Args, api.Int, api.Int)
	switch n.Op {
	case api.Lt, api.Le, api.Gt, api.Ge:
		return ints && c.defines(n.Outs, api.Bool)
	case api.Eq, api.Ne:
		return (ints || c.uses(n.Args, api.Bool, api.Bool)) && c.defines(n.Outs, api.Bool)
	}
	return api.Add <= n.Op && n.Op <= api.Ushr && ints && c.defines(n.Outs, api.Int)
}

func (c *checker) array(name string) bool {
	i, ok := c.places[name]
	return ok && i < len(c.unit.Arrays)
}

func (c *checker) call(n api.Node) bool {
	i, ok := c.places[n.Name]
	if !ok || i < len(c.unit.Arrays) {
		return false
	}
	f := c.unit.Flows[i-len(c.unit.Arrays)]
	return c.uses(n.Args, f.Types[:f.Params]...) && c.defines(n.Outs, f.Type)
}

// fork tells whether an NIf is valid.
func (c *checker) fork(n api.Node, e ends) bool {
	outs, ok := c.types(n.Outs)
	if !ok || !c.uses(n.Args, api.Bool) {
		return false
	}
	e.depth, e.fork, e.yield = e.depth+1, true, outs
	return c.list(n.Kids[0], e) && c.list(n.Kids[1], e) && c.defines(n.Outs, outs...)
}

// loop tells whether an NLoop is valid.
func (c *checker) loop(n api.Node, e ends) bool {
	params, ok := c.types(n.Params)
	if !ok || !c.uses(n.Args, params...) {
		return false
	}
	outs, ok := c.types(n.Outs)
	if !ok {
		return false
	}
	outer := len(c.scope)
	e.depth, e.fork, e.yield = e.depth+1, false, nil
	e.loop, e.next, e.leave = true, params, outs
	if !c.defines(n.Params, params...) || !c.list(n.Kids[0], e) {
		return false
	}
	c.close(outer)
	return c.defines(n.Outs, outs...)
}

// end tells whether a node that ends a list may do so, with these Args.
func (c *checker) end(n api.Node, e ends) bool {
	switch n.Kind {
	case api.NYield:
		return e.fork && c.uses(n.Args, e.yield...)
	case api.NNext:
		return e.loop && c.uses(n.Args, e.next...)
	case api.NLeave:
		return e.loop && c.uses(n.Args, e.leave...)
	case api.NReturn:
		return c.uses(n.Args, e.gives)
	}
	return false
}

// types is the types of some values, false if there is no such value, or if
// there are more than there are values.
func (c *checker) types(values []int) ([]int, bool) {
	if len(values) > len(c.values) {
		return nil, false
	}
	var l []int
	for _, v := range values {
		if v < 0 || v >= len(c.values) {
			return nil, false
		}
		l = append(l, c.values[v].typ)
	}
	return l, true
}

// uses tells whether a node may use these values, as many as there are types,
// and each of its type. The type 0, which only a flow that is not valid itself
// asks for, is any.
func (c *checker) uses(args []int, types ...int) bool {
	if len(args) != len(types) {
		return false
	}
	for i, v := range args {
		if v < 0 || v >= len(c.values) || c.values[v].state != usable {
			return false
		}
		if types[i] != 0 && types[i] != c.values[v].typ {
			return false
		}
	}
	return true
}

// defines makes these values usable. It is false if they are not as many as the
// types, or if one is not of its type or is defined already.
func (c *checker) defines(outs []int, types ...int) bool {
	if len(outs) != len(types) {
		return false
	}
	for i, v := range outs {
		if v < 0 || v >= len(c.values) || c.values[v] != (value{types[i], unset}) {
			return false
		}
		c.values[v].state = usable
		c.scope = append(c.scope, v)
	}
	return true
}
