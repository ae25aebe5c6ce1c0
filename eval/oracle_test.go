package eval_test

import (
	"boxhedge/api"
	"boxhedge/wrap"
)

// oracle is another interpreter of the chapter, for short runs: its calls are
// nested in calls of Go, its variables are a list, and it panics nowhere.
type oracle struct {
	prog   api.Prog
	arrays map[string][]int
	in     []int
	read   int // how many numbers were read
	run    api.Run
	over   bool // the run ended or stopped
}

type binding struct {
	name   string
	n      int
	before *binding
}

func find(vars *binding, name string) *binding {
	for vars.name != name {
		vars = vars.before
	}
	return vars
}

// wanted is what Run should have of a program that passes Check, and how many
// numbers are read.
func wanted(p api.Prog, in []int, fuel int) (api.Run, int) {
	o := oracle{prog: p, arrays: map[string][]int{}, in: in}
	for _, a := range p.Arrays {
		o.arrays[a.Name] = make([]int, a.Size)
	}
	o.run.Fuel = max(fuel, 0)
	if n := o.call("main", nil); !o.over {
		o.run.Status, o.run.Code = api.Done, n
	}
	return o.run, o.read
}

func (o *oracle) end(status int) {
	o.over, o.run.Status = true, status
}

// step tells whether the run goes on.
func (o *oracle) step() bool {
	if o.over {
		return false
	}
	if o.run.Fuel == 0 {
		o.end(api.Going)
		return false
	}
	o.run.Fuel--
	return true
}

func (o *oracle) call(name string, args []int) int {
	for _, f := range o.prog.Funcs {
		if f.Name == name {
			var vars *binding
			for i, x := range f.Params {
				vars = &binding{x.Name, args[i], vars}
			}
			_, n := o.list(f.Body, vars)
			return n
		}
	}
	return 0
}

// args is the values of expressions, which mean nothing when it is over.
func (o *oracle) args(l []api.Expr, vars *binding) []int {
	values := make([]int, len(l))
	for i, e := range l {
		values[i] = o.expr(e, vars)
	}
	return values
}

func (o *oracle) expr(e api.Expr, vars *binding) int {
	if !o.step() {
		return 0
	}
	switch {
	case e.Kind == api.Num || e.Kind == api.Truth:
		return e.N
	case e.Kind == api.Var:
		return find(vars, e.Name).n
	case e.Kind == api.Two && (e.Op == api.Both || e.Op == api.Either):
		n := o.expr(e.Args[0], vars)
		if e.Op == api.Both && n == 0 || e.Op == api.Either && n != 0 {
			return n
		}
		return o.expr(e.Args[1], vars)
	}
	values := o.args(e.Args, vars)
	if o.over {
		return 0
	}
	o.run.Cost++
	return o.apply(e, values)
}

func (o *oracle) apply(e api.Expr, values []int) int {
	switch e.Kind {
	case api.One:
		return wrap.One(e.Op, values[0])
	case api.Two:
		n, ok := wrap.Two(e.Op, values[0], values[1])
		if !ok {
			o.end(api.Zero)
		}
		return n
	case api.Index:
		if !o.within(e.Name, values[0]) {
			return 0
		}
		return o.arrays[e.Name][values[0]]
	case api.Call:
		return o.call(e.Name, values)
	}
	if o.read == len(o.in) {
		o.end(api.Input)
		return 0
	}
	o.read++
	return o.in[o.read-1]
}

// within tells whether an array has an index, without which it is over.
func (o *oracle) within(array string, i int) bool {
	if 0 <= i && i < len(o.arrays[array]) {
		return true
	}
	o.end(api.Bounds)
	return false
}

// list executes statements, and tells the kind of the statement that ended
// them, with a number if that is a Return; or 0.
func (o *oracle) list(l []api.Stmt, vars *binding) (int, int) {
	for _, s := range l {
		if !o.step() {
			return api.Return, 0
		}
		kind, n := o.stmt(s, vars)
		if o.over {
			return api.Return, 0
		}
		if kind != 0 {
			return kind, n
		}
		if s.Kind == api.Let {
			vars = &binding{s.Name, n, vars}
		}
	}
	return 0, 0
}

// stmt executes a statement, and tells as list does what ended it; or 0 and the
// value of the last Arg.
func (o *oracle) stmt(s api.Stmt, vars *binding) (int, int) {
	if s.Kind == api.While {
		return o.loop(s, vars)
	}
	values := append([]int{0}, o.args(s.Args, vars)...)
	if o.over {
		return 0, 0
	}
	n := values[len(values)-1]
	switch s.Kind {
	case api.Set:
		find(vars, s.Name).n = n
	case api.Put:
		o.run.Cost++
		if o.within(s.Name, values[1]) {
			o.arrays[s.Name][values[1]] = n
		}
	case api.Print:
		o.run.Cost++
		o.run.Out = append(o.run.Out, n)
	case api.If:
		if n != 0 {
			return o.list(s.Then, vars)
		}
		return o.list(s.Else, vars)
	case api.Break, api.Continue, api.Return:
		return s.Kind, n
	}
	return 0, n
}

func (o *oracle) loop(s api.Stmt, vars *binding) (int, int) {
	for o.expr(s.Args[0], vars) != 0 && !o.over {
		kind, n := o.list(s.Then, vars)
		if kind == api.Return {
			return kind, n
		}
		if kind == api.Break {
			break
		}
	}
	return 0, 0
}
