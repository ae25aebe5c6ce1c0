package types

import (
	"boxhedge/api"
	"boxhedge/tree"
)

// Ends tells whether the end of a list of valid statements is never reached, as
// far as its Returns, Ifs and endless loops show it.
func Ends(l []api.Stmt) bool {
	for _, s := range l {
		switch s.Kind {
		case api.Return:
			return true
		case api.If:
			if Ends(s.Then) && Ends(s.Else) {
				return true
			}
		case api.While:
			if endless(s) {
				return true
			}
		}
	}
	return false
}

func endless(s api.Stmt) bool {
	return len(s.Args) == 1 && s.Args[0].Kind == api.Truth && s.Args[0].N == 1 && !breaks(s.Then)
}

// breaks tells whether a list of statements has a Break of the loop around it.
func breaks(l []api.Stmt) bool {
	for _, s := range l {
		if s.Kind == api.Break || s.Kind == api.If && (breaks(s.Then) || breaks(s.Else)) {
			return true
		}
	}
	return false
}

// Check is the first error of p, with the numbers of the function and the
// statement where there are such.
func Check(p api.Prog) (api.Errno, [2]int) {
	if !tree.Right(p) {
		return api.ErrArg, [2]int{}
	}
	if !distinct(globals(p)) || !startable(p) {
		return api.ErrName, [2]int{}
	}
	for i, f := range p.Funcs {
		if fault, number := function(p, f); fault != api.OK {
			return fault, [2]int{i, number}
		}
	}
	return api.OK, [2]int{}
}

// globals is the names of the arrays and functions.
func globals(p api.Prog) []string {
	var l []string
	for _, a := range p.Arrays {
		l = append(l, a.Name)
	}
	for _, f := range p.Funcs {
		l = append(l, f.Name)
	}
	return l
}

func distinct(names []string) bool {
	seen := map[string]struct{}{}
	for _, s := range names {
		seen[s] = struct{}{}
	}
	return len(seen) == len(names)
}

// startable tells whether there is a function that a run may begin with.
func startable(p api.Prog) bool {
	i := Place(p, "main")
	return i >= 0 && p.Funcs[i].Type == api.Int && len(p.Funcs[i].Params) == 0
}

// function is the first error of a function, with the number of its statement.
func function(p api.Prog, f api.Func) (api.Errno, int) {
	var names []string
	for _, x := range f.Params {
		names = append(names, x.Name)
	}
	if !distinct(names) {
		return api.ErrName, 0
	}
	c := checker{prog: p, gives: f.Type}
	if fault := c.list(f.Body, with(nil, f.Params...), false); fault != api.OK {
		return fault, c.before
	}
	if !Ends(f.Body) {
		return api.ErrEnd, c.before
	}
	return api.OK, 0
}

// checker goes through the statements of a function.
type checker struct {
	prog   api.Prog
	gives  int // the type of the function
	before int // the number of the statement that it looks at
}

// list is the first error of a list of statements. What it declares is gone
// behind it, since the variables around it do not know those inside.
func (c *checker) list(l []api.Stmt, outer *variable, loop bool) api.Errno {
	vars := outer
	for _, s := range l {
		if fault := c.stmt(s, vars, loop); fault != api.OK {
			return fault
		}
		if s.Kind == api.Let {
			if find(vars, outer, s.Name) != nil {
				return api.ErrName
			}
			vars = with(vars, api.Param{Name: s.Name, Type: s.Type})
		}
		c.before++
		if fault := c.list(s.Then, vars, loop || s.Kind == api.While); fault != api.OK {
			return fault
		}
		if fault := c.list(s.Else, vars, loop); fault != api.OK {
			return fault
		}
	}
	return api.OK
}

// stmt is the first error of a statement, but for those of the statements in it
// and of a name that its list has twice.
func (c *checker) stmt(s api.Stmt, vars *variable, loop bool) api.Errno {
	switch s.Kind {
	case api.Let:
		return c.args(s.Args, vars, s.Type)
	case api.Set:
		v := find(vars, nil, s.Name)
		if v == nil {
			return api.ErrName
		}
		return c.args(s.Args, vars, v.Type)
	case api.Put:
		if Array(c.prog, s.Name) < 0 {
			return api.ErrName
		}
		return c.args(s.Args, vars, api.Int)
	case api.If, api.While:
		return c.args(s.Args, vars, api.Bool)
	case api.Return:
		return c.args(s.Args, vars, c.gives)
	case api.Print:
		return c.args(s.Args, vars, api.Int)
	case api.Do:
		_, fault := typeOf(c.prog, vars, s.Args[0])
		return fault
	}
	if !loop { // it is a Break or a Continue
		return api.ErrLoop
	}
	return api.OK
}

// args is the first error of expressions that all should be of one type.
func (c *checker) args(l []api.Expr, vars *variable, want int) api.Errno {
	for _, e := range l {
		got, fault := typeOf(c.prog, vars, e)
		if fault != api.OK {
			return fault
		}
		if got != want {
			return api.ErrType
		}
	}
	return api.OK
}
