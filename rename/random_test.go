package rename_test

import (
	"math/rand"
	"reflect"
	"slices"
	"strconv"
	"strings"
	"testing"

	"boxhedge/api"
	"boxhedge/rename"
	"boxhedge/types"
)

// variable is a variable of a random program.
type variable struct {
	name   string
	number int
	typ    int
}

// writer writes a random program twice: with names of all kinds, and with those
// that Rename should give.
type writer struct {
	r           *rand.Rand
	given, want strings.Builder
	vars        []variable // what is there, the last one of a name counting
	count       int        // of the variables of the function so far
	loops       int
	gives       int
}

func (w *writer) text(s string) {
	w.given.WriteString(s)
	w.want.WriteString(s)
}

func (w *writer) variable(v variable) {
	w.given.WriteString(v.name)
	w.want.WriteString("v" + strconv.Itoa(v.number))
}

// local has the names of variables; some are those of arrays and functions, or
// those that Rename gives.
func local() []string {
	return []string{"x", "y", "z", "a", "f", "main", "v0", "v1", "v2", "v3", "v10"}
}

func typeName(typ int) string { return []string{api.Int: "int", api.Bool: "bool"}[typ] }

// declare writes a new variable, which is not there yet.
func (w *writer) declare(name string, typ int) variable {
	v := variable{name, w.count, typ}
	w.count++
	w.text(typeName(typ) + " ")
	w.variable(v)
	return v
}

// visible is the variables of a type that are there.
func (w *writer) visible(typ int) []variable {
	var l []variable
	for _, name := range local() {
		for i := len(w.vars) - 1; i >= 0; i-- {
			if w.vars[i].name != name {
				continue
			}
			if w.vars[i].typ == typ {
				l = append(l, w.vars[i])
			}
			break
		}
	}
	return l
}

// use writes a variable of a type, if there is one.
func (w *writer) use(typ int) bool {
	l := w.visible(typ)
	if len(l) > 0 {
		w.variable(l[w.r.Intn(len(l))])
	}
	return len(l) > 0
}

// around writes an expression between two texts.
func (w *writer) around(before string, typ, depth int, behind string) {
	w.text(before)
	w.expr(typ, depth-1)
	w.text(behind)
}

func (w *writer) expr(typ, depth int) {
	if depth == 1 || w.r.Intn(3) == 0 {
		if !w.use(typ) {
			w.text([]string{api.Int: "7", api.Bool: "true"}[typ])
		}
		return
	}
	switch k := w.r.Intn(5); {
	case typ == api.Bool && k < 2:
		w.around("", api.Int, depth, " < ")
		w.expr(api.Int, depth-1)
	case typ == api.Bool && k < 4:
		w.around("!(", api.Bool, depth, ")")
	case typ == api.Bool:
		w.around("", api.Bool, depth, " && !g()")
	case k == 0:
		w.around("a[", api.Int, depth, "]")
	case k == 1:
		w.around("f(", api.Int, depth, ", ")
		w.around("", api.Bool, depth, ")")
	case k == 2:
		w.around("u16(", api.Int, depth, " - read())")
	default:
		w.around("(", api.Int, depth, " * ")
		w.around("", api.Int, depth, ")")
	}
}

// list writes statements in braces, with variables of their own.
func (w *writer) list(depth, most int) {
	w.text("{ ")
	before := len(w.vars)
	for range w.r.Intn(most + 1) {
		w.stmt(depth, before)
	}
	w.vars = w.vars[:before]
	w.text("} ")
}

// stmt writes a statement of a list that began when so many variables were there.
func (w *writer) stmt(depth, before int) {
	typ := 1 + w.r.Intn(2)
	switch k := w.r.Intn(12); {
	case k < 3:
		w.let(local()[w.r.Intn(len(local()))], typ, before)
	case k < 5 && w.use(typ):
		w.around(" = ", typ, 4, "; ")
	case k == 5:
		w.around("a[", api.Int, 4, "] = ")
		w.around("", api.Int, 4, "; ")
	case k == 6 && depth > 1:
		w.around("if (", api.Bool, 4, ") ")
		w.list(depth-1, 4)
		if w.r.Intn(2) == 0 {
			w.text("else ")
			w.list(depth-1, 4)
		}
	case k == 7 && depth > 1:
		w.around("while (", api.Bool, 4, ") ")
		w.loops++
		w.list(depth-1, 4)
		w.loops--
	case k == 8 && w.loops > 0:
		w.text([]string{"break; ", "continue; "}[w.r.Intn(2)])
	case k == 9:
		w.around("return ", w.gives, 4, "; ")
	case k == 10:
		w.around("f(", api.Int, 4, ", true); ")
	default:
		w.around("print(", api.Int, 4, "); ")
	}
}

// let writes a Let, if its list has none of that name yet.
func (w *writer) let(name string, typ, before int) {
	for _, v := range w.vars[before:] {
		if v.name == name {
			return
		}
	}
	v := w.declare(name, typ)
	w.around(" = ", typ, 4, "; ")
	w.vars = append(w.vars, v)
}

// function writes a function, with variables of its own.
func (w *writer) function(typ int, name string, params ...int) {
	w.vars, w.count, w.gives = nil, 0, typ
	w.text(typeName(typ) + " " + name + "(")
	names := w.r.Perm(len(local()))
	for i, typ := range params {
		if i > 0 {
			w.text(", ")
		}
		w.vars = append(w.vars, w.declare(local()[names[i]], typ))
	}
	w.text(") { ")
	if w.r.Intn(2) == 0 {
		w.stmt(5, len(w.vars))
	}
	w.text("if (true) ")
	w.list(5, 8)
	w.around("return ", typ, 4, "; } ")
}

// texts is the texts of a random program and of what Rename should have of it.
func texts(r *rand.Rand) (given, want string) {
	w := &writer{r: r}
	w.text("int a[9]; int v2[2]; ")
	w.function(api.Int, "f", api.Int, api.Bool)
	w.function(api.Bool, "g")
	w.function(api.Int, "v0", api.Bool, api.Int, api.Int)
	w.function(api.Int, "main")
	return w.given.String(), w.want.String()
}

func TestF1Random(t *testing.T) {
	r := rand.New(rand.NewSource(61))
	most := 0
	for range 5000 {
		given, want := texts(r)
		check(t, given, want)
		most = max(most, strings.Count(want, " v11 ="))
	}
	if most == 0 {
		t.Errorf("F1: no program has more than eleven variables in a function")
	}
}

// other is a program with other names: those that the variables of a result of
// Rename have are replaced.
func other(p api.Prog, names func(string) string) api.Prog {
	q := api.Prog{Arrays: p.Arrays}
	for _, f := range p.Funcs {
		f.Params = append([]api.Param{}, f.Params...)
		for i := range f.Params {
			f.Params[i].Name = names(f.Params[i].Name)
		}
		f.Body = otherStmts(f.Body, names)
		q.Funcs = append(q.Funcs, f)
	}
	return q
}

func otherStmts(l []api.Stmt, names func(string) string) []api.Stmt {
	l = append([]api.Stmt{}, l...)
	for i := range l {
		s := &l[i]
		if s.Kind == api.Let || s.Kind == api.Set {
			s.Name = names(s.Name)
		}
		s.Args = otherExprs(s.Args, names)
		s.Then, s.Else = otherStmts(s.Then, names), otherStmts(s.Else, names)
	}
	return l
}

func otherExprs(l []api.Expr, names func(string) string) []api.Expr {
	l = append([]api.Expr{}, l...)
	for i := range l {
		if l[i].Kind == api.Var {
			l[i].Name = names(l[i].Name)
		}
		l[i].Args = otherExprs(l[i].Args, names)
	}
	return l
}

// TestF2Equal: programs that differ in the names of variables only become equal.
func TestF2Equal(t *testing.T) {
	r := rand.New(rand.NewSource(62))
	for range 2000 {
		given, _ := texts(r)
		q := renamed(t, program(t, given))
		want := text(t, q)
		shift := 1 + r.Intn(8)
		for _, names := range []func(string) string{
			func(s string) string { return "x" + s },
			func(s string) string { return s + "v0" },
			func(s string) string { // the same names, each for another variable
				n, _ := strconv.Atoi(s[1:])
				return "v" + strconv.Itoa(n^shift)
			},
		} {
			p := other(q, names)
			if got := text(t, renamed(t, p)); got != want {
				t.Errorf("F2: of\n%sRename has\n%swant\n%s", text(t, p), got, want)
			}
		}
	}
}

// statements is the places of all statements in a list.
func statements(l []api.Stmt) []*api.Stmt {
	var all []*api.Stmt
	for i := range l {
		all = append(append(all, &l[i]), statements(l[i].Then)...)
		all = append(all, statements(l[i].Else)...)
	}
	return all
}

// expressions is the places of all expressions in a list.
func expressions(l []api.Expr) []*api.Expr {
	var all []*api.Expr
	for i := range l {
		all = append(append(all, &l[i]), expressions(l[i].Args)...)
	}
	return all
}

// distort gives one of these statements, or an expression of it, another kind or
// name, whether that may be or not.
func distort(r *rand.Rand, l []*api.Stmt) {
	s := l[r.Intn(len(l))]
	kind, name := r.Intn(12), local()[r.Intn(len(local()))]
	switch e := expressions(s.Args); {
	case r.Intn(4) == 0:
		s.Kind = kind
	case r.Intn(2) == 0 || len(e) == 0:
		s.Name = name
	default:
		x := e[r.Intn(len(e))]
		*x = api.Expr{Kind: kind, Name: name, Args: x.Args}
	}
}

// TestR1Any: whatever it is given, Rename has an error if Check has one.
func TestR1Any(t *testing.T) {
	r := rand.New(rand.NewSource(1))
	right := 0
	for range 5000 {
		given, _ := texts(r)
		p := program(t, given)
		distort(r, statements(p.Funcs[r.Intn(len(p.Funcs))].Body))
		if fault, _ := types.Check(p); fault != api.OK {
			checkWrong(t, p, p)
		} else {
			checkTheorem(t, renamed(t, p))
			right++
		}
	}
	if right < 200 || right > 4800 {
		t.Errorf("R1: %d of 5000 programs pass Check", right)
	}
}

// TestR3R4Again: calls change nothing, and answer the same again, even when
// their answers are written into.
func TestR3R4Again(t *testing.T) {
	r := rand.New(rand.NewSource(34))
	for range 500 {
		given, want := texts(r)
		p, q := program(t, given), program(t, want)
		for range 2 {
			got := renamed(t, p)
			if !reflect.DeepEqual(p, program(t, given)) {
				t.Fatalf("R3: %s became\n%s", given, text(t, p))
			}
			if text(t, got) != text(t, q) {
				t.Fatalf("R4: of %s\nRename has\n%s", given, text(t, got))
			}
			spoil(got)
		}
	}
}

// spoil writes into all lists of a program.
func spoil(p api.Prog) {
	for i := range p.Funcs {
		for _, s := range statements(p.Funcs[i].Body) {
			for _, e := range expressions(s.Args) {
				*e = api.Expr{}
			}
			*s = api.Stmt{}
		}
		clear(p.Funcs[i].Params)
	}
	clear(p.Arrays)
	clear(p.Funcs)
}

// spare is a list with an item of a kind behind its end.
func spare[T any](l []T, last T) []T {
	return append(append([]T{}, l...), last)[:len(l)]
}

// TestR3Beyond: what is behind the end of a list stays as it was.
func TestR3Beyond(t *testing.T) {
	p := program(t, "int a[2]; int f(int x, bool b) { int y = x; if (b) { int x = y; x = 2; } else { y = f(x, b); } return y; }"+main)
	p.Arrays = spare(p.Arrays, api.Array{Name: "last", Size: 9})
	p.Funcs = spare(p.Funcs, api.Func{Name: "last"})
	for i := range p.Funcs {
		f := &p.Funcs[i]
		for _, s := range slices.Backward(statements(f.Body)) { // what is inside first: lists are copied
			for _, e := range slices.Backward(expressions(s.Args)) {
				e.Args = spare(e.Args, api.Expr{Name: "last"})
			}
			s.Args = spare(s.Args, api.Expr{Name: "last"})
			s.Then, s.Else = spare(s.Then, api.Stmt{Name: "last"}), spare(s.Else, api.Stmt{Name: "last"})
		}
		f.Params, f.Body = spare(f.Params, api.Param{Name: "last"}), spare(f.Body, api.Stmt{Name: "last"})
	}
	spoil(renamed(t, p))
	if p.Arrays[:2][1].Name != "last" || p.Funcs[:3][2].Name != "last" {
		t.Errorf("R3: %v, %v", p.Arrays[:2], p.Funcs[:3])
	}
	checkSpare(t, p)
}

// checkSpare looks behind the ends of the lists of the functions of p.
func checkSpare(t *testing.T, p api.Prog) {
	t.Helper()
	stmts := func(l []api.Stmt) string { return l[:len(l)+1][len(l)].Name }
	exprs := func(l []api.Expr) string { return l[:len(l)+1][len(l)].Name }
	for _, f := range p.Funcs {
		names := []string{f.Params[:len(f.Params)+1][len(f.Params)].Name, stmts(f.Body)}
		for _, s := range statements(f.Body) {
			names = append(names, stmts(s.Then), stmts(s.Else), exprs(s.Args))
			for _, e := range expressions(s.Args) {
				names = append(names, exprs(e.Args))
			}
		}
		for _, s := range names {
			if s != "last" {
				t.Errorf("R3: %s: there is %q behind the end of a list", f.Name, s)
			}
		}
	}
}

// TestR1Nothing: no program at all.
func TestR1Nothing(t *testing.T) {
	if q, fault := rename.Rename(api.Prog{}); fault != api.ErrArg || !reflect.DeepEqual(q, api.Prog{}) {
		t.Errorf("F1: Rename has %v, %d", q, fault)
	}
}
