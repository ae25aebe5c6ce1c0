package eval

import (
	"slices"

	"boxhedge/api"
)

// Kinds of instructions.
const (
	begin  = iota // a step
	apply         // takes the values of the Args of an expression, and leaves its own
	finish        // takes the values of the Args of a statement, and does the rest of it
	jump          // goes on at another place
	unless        // takes a value, and jumps if that is 0
	both          // jumps if the last value is 0, and takes it otherwise
	either        // jumps if the last value is not 0, and takes it otherwise
	enter         // begins a list with variables of its own
	leave         // ends it
)

// instr is an instruction.
type instr struct {
	kind int
	to   int // the place to which it may jump
	expr *api.Expr
	stmt *api.Stmt
}

// function is a function as a machine knows it: what its statements and their
// expressions do, one after the other. Written so, a call can be left for
// another one inside an expression, and gone on with, without a call of Go.
type function struct {
	params []api.Param
	code   []instr
}

func newFunction(f api.Func) function {
	var w writer
	w.stmts(f.Body) // the variables of a call are new ones: no clone for these
	return function{f.Params, w.code}
}

// writer writes the code of a function.
type writer struct {
	code   []instr
	scopes int // how many lists with variables of their own are around
	loop   loop
}

// loop is the innermost loop around what is written.
type loop struct {
	start  int // the place of its condition
	scopes int // how many lists with variables of their own are around it
	breaks []int
}

// emit writes an instruction, and tells its place.
func (w *writer) emit(x instr) int {
	w.code = append(w.code, x)
	return len(w.code) - 1
}

// land lets these instructions jump to what is written next.
func (w *writer) land(places ...int) {
	for _, i := range places {
		w.code[i].to = len(w.code)
	}
}

func (w *writer) stmts(l []api.Stmt) {
	for i := range l {
		w.stmt(&l[i])
	}
}

// list writes the statements of a list inside of another one.
func (w *writer) list(l []api.Stmt) {
	if !slices.ContainsFunc(l, func(s api.Stmt) bool { return s.Kind == api.Let }) {
		w.stmts(l)
		return
	}
	w.emit(instr{kind: enter})
	w.scopes++
	w.stmts(l)
	w.scopes--
	w.emit(instr{kind: leave})
}

func (w *writer) stmt(s *api.Stmt) {
	w.emit(instr{kind: begin})
	switch s.Kind {
	case api.If:
		w.choice(s)
	case api.While:
		w.repetition(s)
	case api.Break:
		w.leaveLists()
		w.loop.breaks = append(w.loop.breaks, w.emit(instr{kind: jump}))
	case api.Continue:
		w.leaveLists()
		w.emit(instr{kind: jump, to: w.loop.start})
	default:
		w.exprs(s.Args)
		w.emit(instr{kind: finish, stmt: s})
	}
}

func (w *writer) choice(s *api.Stmt) {
	w.exprs(s.Args)
	other := w.emit(instr{kind: unless})
	w.list(s.Then)
	end := w.emit(instr{kind: jump})
	w.land(other)
	w.list(s.Else)
	w.land(end)
}

func (w *writer) repetition(s *api.Stmt) {
	outer := w.loop
	w.loop = loop{start: len(w.code), scopes: w.scopes}
	w.exprs(s.Args)
	end := w.emit(instr{kind: unless})
	w.list(s.Then)
	w.emit(instr{kind: jump, to: w.loop.start})
	w.land(end)
	w.land(w.loop.breaks...)
	w.loop = outer
}

// leaveLists ends the lists of the innermost loop that have variables of their own.
func (w *writer) leaveLists() {
	for range w.scopes - w.loop.scopes {
		w.emit(instr{kind: leave})
	}
}

func (w *writer) exprs(l []api.Expr) {
	for i := range l {
		w.expr(&l[i])
	}
}

func (w *writer) expr(e *api.Expr) {
	w.emit(instr{kind: begin})
	switch {
	case e.Kind == api.Two && e.Op == api.Both:
		w.lazy(e, both)
	case e.Kind == api.Two && e.Op == api.Either:
		w.lazy(e, either)
	default:
		w.exprs(e.Args)
		w.emit(instr{kind: apply, expr: e})
	}
}

// lazy writes an expression whose first Arg may be its value already.
func (w *writer) lazy(e *api.Expr, kind int) {
	w.expr(&e.Args[0])
	end := w.emit(instr{kind: kind})
	w.expr(&e.Args[1])
	w.land(end)
}
