package types_test

import (
	"math/rand"
	"reflect"
	"testing"

	"boxhedge/api"
	"boxhedge/tree"
	"boxhedge/types"
)

// maker makes random programs without an error but for those that it is asked
// for. Its scopes are maps of types, the innermost one last.
type maker struct {
	r      *rand.Rand
	prog   api.Prog
	gives  int
	scopes []map[string]int
	gone   []string // names that Lets of lists behind had
	loops  int
	number int // the number of the next statement
	wrong  int // the number of the one that gets an error, or -1
	fault  api.Errno
}

// local has the names of variables; some are those of arrays and functions.
func local() []string { return []string{"x", "y", "z", "b", "c", "a0", "f1", "main"} }

// visible is the type of the last variable of a name, or 0.
func (m *maker) visible(name string) int {
	for i := len(m.scopes) - 1; i >= 0; i-- {
		if k := m.scopes[i][name]; k != 0 {
			return k
		}
	}
	return 0
}

// names is the names of variables of a type; of type 0, those that are not there.
func (m *maker) names(typ int) []string {
	var l []string
	for _, s := range local() {
		if m.visible(s) == typ {
			l = append(l, s)
		}
	}
	return l
}

func (m *maker) pick(l []string) string { return l[m.r.Intn(len(l))] }

// expr is an expression of a type.
func (m *maker) expr(typ, depth int) api.Expr {
	if l := m.names(typ); len(l) > 0 && m.r.Intn(3) == 0 {
		return variable(m.pick(l))
	}
	if depth == 1 {
		leaves := []api.Expr{num(m.r.Intn(9)), reads()}
		if typ == api.Bool {
			leaves = []api.Expr{truth(0), truth(1)}
		}
		return leaves[m.r.Intn(2)]
	}
	if m.r.Intn(4) == 0 {
		return m.call(typ, depth)
	}
	if typ == api.Int && len(m.prog.Arrays) > 0 && m.r.Intn(5) == 0 {
		return index(m.prog.Arrays[m.r.Intn(len(m.prog.Arrays))].Name, m.expr(api.Int, depth-1))
	}
	for {
		op := api.Add + m.r.Intn(api.U32)
		takes := operators[op][0]
		if operators[op][1] != typ {
			continue
		}
		if takes == 0 {
			takes = 1 + m.r.Intn(2)
		}
		if op >= api.Neg {
			return one(op, m.expr(takes, depth-1))
		}
		return two(op, m.expr(takes, depth-1), m.expr(takes, depth-1))
	}
}

// call is a call of a function of a type, if there is one; else of main, or of
// what is compared with it.
func (m *maker) call(typ, depth int) api.Expr {
	f := m.prog.Funcs[m.r.Intn(len(m.prog.Funcs))]
	if f.Type != typ && typ == api.Bool {
		return two(api.Ne, call("main"), m.expr(api.Int, depth-1))
	}
	if f.Type != typ {
		return call("main")
	}
	e := call(f.Name)
	for _, x := range f.Params {
		e.Args = append(e.Args, m.expr(x.Type, depth-1))
	}
	return e
}

// list is a list of statements with a scope of its own.
func (m *maker) list(depth, most int) []api.Stmt {
	m.scopes = append(m.scopes, map[string]int{})
	var l []api.Stmt
	for range m.r.Intn(most + 1) {
		l = append(l, m.stmt(depth))
	}
	m.leave()
	return l
}

// leave ends the innermost scope.
func (m *maker) leave() {
	last := len(m.scopes) - 1
	for _, s := range local() {
		if m.scopes[last][s] != 0 {
			m.gone = append(m.gone, s)
		}
	}
	m.scopes = m.scopes[:last]
}

func (m *maker) stmt(depth int) api.Stmt {
	m.number++
	if m.number-1 == m.wrong {
		if s, fault := m.mistake(); fault != api.OK {
			m.fault = fault
			return s
		}
		m.wrong++ // there was no place for that one: the next one gets an error
	}
	own := m.scopes[len(m.scopes)-1]
	name := m.pick(local())
	typ := 1 + m.r.Intn(2)
	switch kind := 1 + m.r.Intn(10); {
	case kind == api.Let && own[name] == 0:
		s := api.Stmt{Kind: kind, Type: typ, Name: name, Args: []api.Expr{m.expr(typ, 3)}}
		own[name] = typ
		return s
	case kind == api.Set && m.visible(name) != 0:
		return api.Stmt{Kind: kind, Name: name, Args: []api.Expr{m.expr(m.visible(name), 3)}}
	case kind == api.Put && len(m.prog.Arrays) > 0:
		return api.Stmt{Kind: kind, Name: m.prog.Arrays[0].Name, Args: []api.Expr{m.expr(api.Int, 3), m.expr(api.Int, 3)}}
	case kind == api.If && depth > 1:
		s := stmt(kind, m.expr(api.Bool, 3))
		s.Then = m.list(depth-1, 3)
		s.Else = m.list(depth-1, 3)
		return s
	case kind == api.While && depth > 1:
		s := stmt(kind, m.expr(api.Bool, 3))
		m.loops++
		s.Then = m.list(depth-1, 3)
		m.loops--
		return s
	case (kind == api.Break || kind == api.Continue) && m.loops > 0:
		return stmt(kind)
	case kind == api.Return:
		return stmt(kind, m.expr(m.gives, 3))
	case kind == api.Do:
		f := m.prog.Funcs[m.r.Intn(len(m.prog.Funcs))]
		s := stmt(kind, call(f.Name))
		for _, x := range f.Params {
			s.Args[0].Args = append(s.Args[0].Args, m.expr(x.Type, 2))
		}
		return s
	}
	return stmt(api.Print, m.expr(api.Int, 3))
}

// mistake is a statement with an error here, or no error where the kind that it
// drew has none.
func (m *maker) mistake() (api.Stmt, api.Errno) {
	typ := 1 + m.r.Intn(2)
	right, wrong := m.expr(typ, 3), m.expr(3-typ, 3)
	name := m.pick(local())
	array := "a0"
	if len(m.prog.Arrays) == 0 {
		array = "a9"
	}
	switch m.r.Intn(10) {
	case 0:
		return api.Stmt{Kind: api.Let, Type: typ, Name: name, Args: []api.Expr{wrong}}, api.ErrType
	case 1:
		if m.scopes[len(m.scopes)-1][name] == 0 {
			return api.Stmt{}, api.OK
		}
		return api.Stmt{Kind: api.Let, Type: typ, Name: name, Args: []api.Expr{right}}, api.ErrName
	case 2:
		if m.visible(name) != 0 {
			return api.Stmt{Kind: api.Set, Name: name, Args: []api.Expr{m.expr(3-m.visible(name), 3)}}, api.ErrType
		}
		return api.Stmt{Kind: api.Set, Name: name, Args: []api.Expr{right}}, api.ErrName
	case 3:
		return api.Stmt{Kind: api.Put, Name: "f1", Args: []api.Expr{right, wrong}}, api.ErrName
	case 4:
		if array == "a9" {
			return api.Stmt{Kind: api.Put, Name: array, Args: []api.Expr{wrong, right}}, api.ErrName
		}
		return api.Stmt{Kind: api.Put, Name: array, Args: []api.Expr{right, wrong}}, api.ErrType
	case 5:
		return api.Stmt{Kind: api.While + m.r.Intn(2) - 1, Args: []api.Expr{m.expr(api.Int, 3)}, Then: []api.Stmt{stmt(api.Print, variable("nowhere"))}}, api.ErrType
	case 6:
		if m.loops > 0 {
			return api.Stmt{}, api.OK
		}
		return stmt(api.Break + m.r.Intn(2)), api.ErrLoop
	case 7:
		return stmt(api.Return, m.expr(3-m.gives, 3)), api.ErrType
	case 8:
		return stmt(api.Do, call("f1", right, wrong, right, wrong)), api.ErrType
	}
	return m.lost()
}

// lost prints what no longer is there, if anything is not.
func (m *maker) lost() (api.Stmt, api.Errno) {
	for i := len(m.gone) - 1; i >= 0; i-- {
		if m.visible(m.gone[i]) == 0 {
			return stmt(api.Print, two(api.Add, m.expr(api.Int, 2), variable(m.gone[i]))), api.ErrName
		}
	}
	return api.Stmt{}, api.OK
}

// heading draws the arrays, and the functions without their statements.
func (m *maker) heading() {
	if m.r.Intn(3) > 0 {
		m.prog.Arrays = []api.Array{{Name: "a0", Size: 1 + m.r.Intn(9)}}
	}
	params := func() []api.Param {
		var l []api.Param
		for _, i := range m.r.Perm(5)[:m.r.Intn(4)] {
			l = append(l, api.Param{Name: local()[i], Type: 1 + m.r.Intn(2)})
		}
		return l
	}
	m.prog.Funcs = []api.Func{{Name: "main", Type: api.Int}, {Name: "f1", Type: api.Int, Params: params()}, {Name: "f2", Type: api.Bool, Params: params()}, {Name: "f3", Type: 1 + m.r.Intn(2), Params: params()}}
	m.r.Shuffle(4, func(i, j int) { m.prog.Funcs[i], m.prog.Funcs[j] = m.prog.Funcs[j], m.prog.Funcs[i] })
}

// body draws the statements of the i-th function, with a last one that ends it
// if that is asked for, and gives their number.
func (m *maker) body(i int, ends bool) int {
	f := &m.prog.Funcs[i]
	m.gives, m.number, m.gone = f.Type, 0, nil
	m.scopes = []map[string]int{{}}
	for _, x := range f.Params {
		m.scopes[0][x.Name] = x.Type
	}
	f.Body = m.list(4, 6)
	if ends {
		m.number++
		f.Body = append(f.Body, stmt(api.Return, m.constant(f.Type)))
	}
	return m.number
}

// constant is an expression of a type without a variable.
func (m *maker) constant(typ int) api.Expr {
	if typ == api.Int {
		return num(m.r.Intn(9))
	}
	return truth(m.r.Intn(2))
}

// randomProg is a program without an error, with the numbers of the statements
// of its functions.
func randomProg(r *rand.Rand) (api.Prog, []int) {
	m := maker{r: r, wrong: -1}
	m.heading()
	var l []int
	for i := range m.prog.Funcs {
		l = append(l, m.body(i, true))
	}
	return m.prog, l
}

func TestE4Random(t *testing.T) {
	r := rand.New(rand.NewSource(54))
	for range 3000 {
		p, l := randomProg(r)
		check(t, p, verdict{}, p)
		// Without its last statement a function ends or not, and that is all.
		i := r.Intn(len(p.Funcs))
		f := &p.Funcs[i]
		want := verdict{}
		if f.Body = f.Body[:len(f.Body)-1]; !types.Ends(f.Body) {
			want = mistake(api.ErrEnd, i, l[i]-1)
		}
		check(t, p, want, p)
	}
}

// spoil draws the statements of the i-th function with an error in the n-th one,
// or in the first one behind it in which there may be one, and gives the verdict.
func (m *maker) spoil(i, n int) verdict {
	m.wrong, m.fault = n, api.OK
	m.body(i, false)
	if m.fault != api.OK {
		return mistake(m.fault, i, m.wrong)
	}
	f := &m.prog.Funcs[i]
	f.Body = append(f.Body, stmt(api.Do, call("nowhere")))
	return mistake(api.ErrName, i, m.number)
}

// wrongProg is a program with an error, and its verdict. Its later functions
// may have errors if that is asked for.
func wrongProg(r *rand.Rand, more bool) (api.Prog, verdict) {
	m := maker{r: r}
	m.heading()
	at := r.Intn(len(m.prog.Funcs))
	var want verdict
	for i := range m.prog.Funcs {
		m.wrong = -1
		switch {
		case i == at:
			want = m.spoil(i, r.Intn(10))
		case i > at && more && r.Intn(2) == 0:
			m.spoil(i, r.Intn(3))
		default:
			m.body(i, true)
		}
	}
	return m.prog, want
}

func TestE4RandomMistakes(t *testing.T) {
	r := rand.New(rand.NewSource(540))
	count := map[api.Errno]int{}
	for range 10000 {
		p, want := wrongProg(r, true)
		check(t, p, want, p)
		count[want.fault]++
	}
	for _, fault := range []api.Errno{api.ErrName, api.ErrType, api.ErrLoop} {
		if count[fault] < 300 {
			t.Errorf("E4: too few programs with the error %d: %v", fault, count)
		}
	}
}

// permuted is p with its functions in another order; the i-th one is the
// order[i]-th one of p.
func permuted(p api.Prog, order []int) api.Prog {
	q := api.Prog{Arrays: p.Arrays}
	for _, n := range order {
		q.Funcs = append(q.Funcs, p.Funcs[n])
	}
	return q
}

func TestE5Order(t *testing.T) {
	r := rand.New(rand.NewSource(55))
	for range 2000 {
		p, _ := randomProg(r)
		order := r.Perm(len(p.Funcs))
		check(t, permuted(p, order), verdict{}, "E5", order, p)
		// Of a program that does not pass the error goes with its function.
		p, want := wrongProg(r, false)
		for i, n := range order {
			if n == want.at[0] {
				want.at[0] = i
				break
			}
		}
		check(t, permuted(p, order), want, "E5", order, p)
	}
}

// appended is p with a statement behind the last one of its i-th function.
func appended(p api.Prog, i int, s api.Stmt) api.Prog {
	q := api.Prog{Arrays: p.Arrays, Funcs: append([]api.Func{}, p.Funcs...)}
	q.Funcs[i].Body = append(append([]api.Stmt{}, p.Funcs[i].Body...), s)
	return q
}

func TestE5Append(t *testing.T) {
	r := rand.New(rand.NewSource(550))
	inner := stmt(api.Print, truth(0))
	for range 500 {
		p, l := randomProg(r)
		w, before := wrongProg(r, true)
		i := r.Intn(len(p.Funcs))
		n := l[i]
		for _, x := range []struct {
			s    api.Stmt
			want verdict
		}{
			{stmt(api.Print, num(1)), verdict{}},
			{stmt(api.Return, call(p.Funcs[i].Name)), mistake(api.ErrType, i, n)},
			{stmt(api.Break), mistake(api.ErrLoop, i, n)},
			{stmt(api.Print, variable("nowhere")), mistake(api.ErrName, i, n)},
			{api.Stmt{Kind: api.Let, Type: api.Int, Name: "fresh", Args: []api.Expr{num(1)}}, verdict{}},
			{api.Stmt{Kind: api.Let, Type: api.Int, Name: "fresh", Args: []api.Expr{truth(1)}}, mistake(api.ErrType, i, n)},
			{api.Stmt{Kind: api.While, Args: []api.Expr{truth(1)}, Then: []api.Stmt{stmt(api.Break), stmt(api.Continue)}}, verdict{}},
			{api.Stmt{Kind: api.While, Args: []api.Expr{truth(1)}, Then: []api.Stmt{stmt(api.Break), inner}}, mistake(api.ErrType, i, n+2)},
			{api.Stmt{Kind: api.If, Args: []api.Expr{truth(1)}, Else: []api.Stmt{inner}}, mistake(api.ErrType, i, n+1)},
		} {
			if x.s.Kind == api.Return && len(p.Funcs[i].Params) == 0 {
				x.want = verdict{}
			}
			check(t, appended(p, i, x.s), x.want, "E5", x.s, p)
			check(t, appended(w, before.at[0], x.s), before, "E5", x.s, w)
		}
		checkAny(t, p, i, n, w)
	}
}

// checkAny appends whatever statements another program has to the i-th function
// of p, which has n of them.
func checkAny(t *testing.T, p api.Prog, i, n int, other api.Prog) {
	t.Helper()
	for _, f := range other.Funcs {
		for _, s := range f.Body {
			fault, at := types.Check(appended(p, i, s))
			if fault != api.OK && (at[0] != i || at[1] < n || fault == api.ErrEnd) {
				t.Errorf("E5: %v behind %v: Check has %d %v", s, p, fault, at)
			}
		}
	}
}

// TestE5End: a statement more behind a function that does not end.
func TestE5End(t *testing.T) {
	p := program(t, good+" int f(bool b) { if (b) { return 1; } }")
	check(t, p, mistake(api.ErrEnd, 1, 2), "E5")
	check(t, appended(p, 1, stmt(api.Return, num(1))), verdict{}, "E5")
	check(t, appended(p, 1, stmt(api.Print, num(1))), mistake(api.ErrEnd, 1, 3), "E5")
	check(t, appended(p, 1, stmt(api.Continue)), mistake(api.ErrLoop, 1, 2), "E5")
}

// exprsOf and stmtsOf are the places of all that is in a list.
func exprsOf(l []api.Expr) []*api.Expr {
	var all []*api.Expr
	for i := range l {
		all = append(append(all, &l[i]), exprsOf(l[i].Args)...)
	}
	return all
}

func stmtsOf(l []api.Stmt) []*api.Stmt {
	var all []*api.Stmt
	for i := range l {
		all = append(append(all, &l[i]), stmtsOf(l[i].Then)...)
		all = append(all, stmtsOf(l[i].Else)...)
	}
	return all
}

// distort changes a field of an expression, whether that may be or not.
func distort(r *rand.Rand, e *api.Expr) {
	switch r.Intn(5) {
	case 0:
		e.Kind = r.Intn(11) - 1
	case 1:
		e.Op = r.Intn(31) - 1
	case 2:
		e.N = r.Intn(4) - 1
	case 3:
		e.Name = []string{"", "x", "main", "f1", "a0", "if"}[r.Intn(6)]
	case 4:
		e.Args = make([]api.Expr, r.Intn(10))
	}
}

// distortStmt does so with a statement.
func distortStmt(r *rand.Rand, s *api.Stmt) {
	switch r.Intn(5) {
	case 0:
		s.Kind = r.Intn(13) - 1
	case 1:
		s.Type = r.Intn(4)
	case 2:
		s.Name = []string{"", "x", "main", "f1", "a0", "if"}[r.Intn(6)]
	case 3:
		s.Args = s.Args[:0]
	case 4:
		s.Then, s.Else = s.Else, s.Then
	}
}

// within tells whether at may be a verdict's numbers of p.
func within(p api.Prog, at [2]int) bool {
	return 0 <= at[0] && at[0] < len(p.Funcs) && 0 <= at[1] && at[1] <= len(stmtsOf(p.Funcs[at[0]].Body))
}

// TestR1Any: of whatever it is given, Check tells ErrArg if it is not valid, and
// nothing else then.
func TestR1Any(t *testing.T) {
	r := rand.New(rand.NewSource(1))
	valid := 0
	for range 20000 {
		p, _ := randomProg(r)
		f := &p.Funcs[r.Intn(len(p.Funcs))]
		l := stmtsOf(f.Body)
		for range 1 + r.Intn(2) {
			s := l[r.Intn(len(l))]
			if e := exprsOf(s.Args); len(e) > 0 && r.Intn(2) == 0 {
				distort(r, e[r.Intn(len(e))])
			} else {
				distortStmt(r, s)
			}
		}
		fault, at := types.Check(p)
		if tree.Right(p) {
			valid++
		}
		if (fault == api.ErrArg) == tree.Right(p) || fault == api.ErrArg && at != [2]int{} || !within(p, at) {
			t.Fatalf("R1: %v: Check has %d %v", p, fault, at)
		}
	}
	if valid < 1000 || valid > 19000 {
		t.Errorf("R1: %d of 20000 programs are valid", valid)
	}
}

// TestR3R4Again: calls change nothing, and answer the same again.
func TestR3R4Again(t *testing.T) {
	r := rand.New(rand.NewSource(34))
	same := rand.New(rand.NewSource(34))
	for range 1000 {
		p, want := wrongProg(r, true)
		check(t, p, want, "R4", p)
		check(t, p, want, "R4 again", p)
		for _, f := range p.Funcs {
			types.Ends(f.Body)
			for _, s := range f.Body {
				for _, e := range s.Args {
					k, fault := types.Type(p, f.Params, e)
					checkType(t, p, f.Params, e, k, fault, "R4", e)
				}
			}
		}
		if q, _ := wrongProg(same, true); !reflect.DeepEqual(p, q) {
			t.Fatalf("R3: %v became %v", q, p)
		}
	}
}
