package eval

import (
	"maps"

	"boxhedge/api"
	"boxhedge/wrap"
)

// machine is the state of a run.
type machine struct {
	funcs  map[string]function
	arrays map[string][]int
	in     []int // what has not been read
	values []int // of expressions, what has not been taken
	active *call // the innermost one
	run    api.Run
}

// call is an active call. Calls are linked, and not nested in calls of Go: they
// may be so many that Go's stack could not hold them.
type call struct {
	code   []instr
	place  int // of the next instruction
	vars   variables
	outer  []variables // what there was where the lists around began
	caller *call
}

// variables is the variables that are there. A clone of it knows the same ones,
// not copies of them, until a list declares its own in it.
type variables map[string]*int

func (vars variables) declare(name string, n int) {
	vars[name] = &n
}

func newMachine(p api.Prog, in []int, fuel int) *machine {
	m := &machine{funcs: map[string]function{}, arrays: map[string][]int{}, in: in}
	for _, f := range p.Funcs {
		m.funcs[f.Name] = newFunction(f)
	}
	for _, a := range p.Arrays {
		m.arrays[a.Name] = make([]int, a.Size)
	}
	m.run.Fuel = fuel
	return m
}

func (m *machine) push(n int) {
	m.values = append(m.values, n)
}

// pop takes the last value.
func (m *machine) pop() int {
	last := len(m.values) - 1
	n := m.values[last]
	m.values = m.values[:last]
	return n
}

// next does what the next instruction says.
func (m *machine) next() {
	c := m.active
	x := &c.code[c.place]
	c.place++
	switch x.kind {
	case begin:
		m.step()
	case apply:
		m.apply(x.expr)
	case finish:
		m.finish(x.stmt)
	case jump:
		c.place = x.to
	case unless:
		if m.pop() == 0 {
			c.place = x.to
		}
	case both, either:
		n := m.pop()
		if (n == 0) == (x.kind == both) {
			m.push(n)
			c.place = x.to
		}
	case enter:
		c.outer = append(c.outer, c.vars)
		c.vars = maps.Clone(c.vars)
	case leave:
		last := len(c.outer) - 1
		c.vars, c.outer = c.outer[last], c.outer[:last]
	}
}

func (m *machine) step() {
	if m.run.Fuel == 0 {
		panic(ended{status: api.Going})
	}
	m.run.Fuel--
}

// apply takes the values of the Args of an expression, and leaves its own; that
// of a call is left when the function returns.
func (m *machine) apply(e *api.Expr) {
	switch e.Kind {
	case api.Num, api.Truth:
		m.push(e.N)
		return
	case api.Var:
		m.push(*m.active.vars[e.Name])
		return
	}
	m.run.Cost++
	switch e.Kind {
	case api.One:
		m.push(wrap.One(e.Op, m.pop()))
	case api.Two:
		m.two(e.Op)
	case api.Index:
		m.push(*m.item(e.Name))
	case api.Call:
		m.call(e.Name)
	case api.Read:
		m.read()
	}
}

func (m *machine) two(op int) {
	b := m.pop()
	a := m.pop()
	n, ok := wrap.Two(op, a, b)
	if !ok {
		panic(ended{status: api.Zero})
	}
	m.push(n)
}

// item is where a number of an array stands, whose index is the last value.
func (m *machine) item(array string) *int {
	l, i := m.arrays[array], m.pop()
	if i < 0 || i >= len(l) {
		panic(ended{status: api.Bounds})
	}
	return &l[i]
}

func (m *machine) read() {
	if len(m.in) == 0 {
		panic(ended{status: api.Input})
	}
	m.push(m.in[0])
	m.in = m.in[1:]
}

// call begins a call, whose arguments are the last values.
func (m *machine) call(name string) {
	f := m.funcs[name]
	rest := len(m.values) - len(f.params)
	vars := variables{}
	for i, x := range f.params {
		vars.declare(x.Name, m.values[rest+i])
	}
	m.values = m.values[:rest]
	m.active = &call{code: f.code, vars: vars, caller: m.active}
}

// finish takes the values of the Args of a statement, and does the rest of it.
// Of a Do that is nothing.
func (m *machine) finish(s *api.Stmt) {
	n := m.pop()
	switch s.Kind {
	case api.Let:
		m.active.vars.declare(s.Name, n)
	case api.Set:
		*m.active.vars[s.Name] = n
	case api.Put:
		m.run.Cost++
		*m.item(s.Name) = n
	case api.Print:
		m.run.Cost++
		m.run.Out = append(m.run.Out, n)
	case api.Return:
		m.leaveCall(n)
	}
}

// leaveCall returns a number from the innermost call; from the first one, that
// is the end.
func (m *machine) leaveCall(n int) {
	m.active = m.active.caller
	if m.active == nil {
		panic(ended{api.Done, n})
	}
	m.push(n)
}
