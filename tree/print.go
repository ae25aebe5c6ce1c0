package tree

import (
	"strconv"
	"strings"

	"boxhedge/api"
	"boxhedge/wrap"
)

// unary is the level of what an operator with one operand takes: every operator
// with two operands has a lower one.
const unary = 11

// Print is the text of p, or ErrArg if p is not valid.
func Print(p api.Prog) (string, api.Errno) {
	if !Right(p) {
		return "", api.ErrArg
	}
	var t text
	for _, a := range p.Arrays {
		t.line(kind(api.Int), " ", a.Name, "[", a.Size, "];")
	}
	for _, f := range p.Funcs {
		t.line(kind(f.Type), " ", f.Name, "(", f.Params, ") {")
		t.block(f.Body)
		t.line("}")
	}
	return t.String(), api.OK
}

// text is the text of a program that is being written, and how many tabs its
// next line begins with.
type text struct {
	strings.Builder
	tabs int
}

// kind is a type of the language, to be written as its word.
type kind int

// operand is an expression, to be written as the operand at a level.
type operand struct {
	expr  api.Expr
	level int
}

// line writes a line of the parts.
func (t *text) line(parts ...any) {
	for range t.tabs {
		t.WriteByte('\t')
	}
	t.write(parts...)
	t.WriteByte('\n')
}

// write writes the parts one after the other, each as its Go type asks.
func (t *text) write(parts ...any) {
	for _, part := range parts {
		switch x := part.(type) {
		case string:
			t.WriteString(x)
		case int:
			t.WriteString(strconv.Itoa(x))
		case kind:
			t.kind(x)
		case api.Param:
			t.write(kind(x.Type), " ", x.Name)
		case []api.Param:
			list(t, x)
		case api.Expr:
			t.expr(x)
		case []api.Expr:
			list(t, x)
		case operand:
			t.operand(x)
		}
	}
}

// list writes parts of one type with commas between.
func list[P any](t *text, l []P) {
	for i, x := range l {
		if i > 0 {
			t.WriteString(", ")
		}
		t.write(x)
	}
}

func (t *text) kind(k kind) {
	if k == api.Bool {
		t.WriteString("bool")
		return
	}
	t.WriteString("int")
}

// block writes statements that are nested one deeper than the line before.
func (t *text) block(l []api.Stmt) {
	t.tabs++
	for _, s := range l {
		t.stmt(s)
	}
	t.tabs--
}

func (t *text) stmt(s api.Stmt) {
	switch s.Kind {
	case api.Let:
		t.line(kind(s.Type), " ", s.Name, " = ", s.Args[0], ";")
	case api.Set:
		t.line(s.Name, " = ", s.Args[0], ";")
	case api.Put:
		t.line(s.Name, "[", s.Args[0], "] = ", s.Args[1], ";")
	case api.If:
		t.line("if (", s.Args[0], ") {")
		t.block(s.Then)
		if len(s.Else) > 0 {
			t.line("} else {")
			t.block(s.Else)
		}
		t.line("}")
	case api.While:
		t.line("while (", s.Args[0], ") {")
		t.block(s.Then)
		t.line("}")
	case api.Break:
		t.line("break;")
	case api.Continue:
		t.line("continue;")
	case api.Return:
		t.line("return ", s.Args[0], ";")
	case api.Print:
		t.line("print(", s.Args[0], ");")
	case api.Do:
		t.line(s.Args[0], ";")
	}
}

func (t *text) expr(e api.Expr) {
	switch e.Kind {
	case api.Num:
		t.write(e.N)
	case api.Truth:
		t.WriteString(strconv.FormatBool(e.N == 1))
	case api.Var:
		t.WriteString(e.Name)
	case api.One:
		t.one(e.Op, e.Args[0])
	case api.Two:
		// The second operand is a level higher: operators of one level group
		// from the left.
		level := wrap.Level(e.Op)
		t.write(operand{e.Args[0], level}, " ", wrap.Sign(e.Op), " ", operand{e.Args[1], level + 1})
	case api.Index:
		t.write(e.Name, "[", e.Args[0], "]")
	case api.Call:
		t.write(e.Name, "(", e.Args, ")")
	case api.Read:
		t.WriteString("read()")
	}
}

// one writes an operator with one operand: a conversion looks like a call.
func (t *text) one(op int, e api.Expr) {
	if op >= api.I8 {
		t.write(wrap.Sign(op), "(", e, ")")
		return
	}
	t.write(wrap.Sign(op), operand{e, unary})
}

func (t *text) operand(x operand) {
	if x.expr.Kind == api.Two && wrap.Level(x.expr.Op) < x.level {
		t.write("(", x.expr, ")")
		return
	}
	t.expr(x.expr)
}
