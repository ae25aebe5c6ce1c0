// Package wrap is layer 1: the operators of the language on 64-bit integers that wrap around. See shared/doc/01-wrap.md.
package wrap

import "boxhedge/api"

// row is what the language says of an operator, whatever its operands.
type row struct {
	sign  string
	level int
}

// rows has each operator's row at its number; what is no operator below U32 has the zero row.
var rows = [api.U32 + 1]row{
	api.Add:    {"+", 9},
	api.Sub:    {"-", 9},
	api.Mul:    {"*", 10},
	api.Div:    {"/", 10},
	api.Rem:    {"%", 10},
	api.And:    {"&", 5},
	api.Or:     {"|", 3},
	api.Xor:    {"^", 4},
	api.Shl:    {"<<", 8},
	api.Shr:    {">>", 8},
	api.Ushr:   {">>>", 8},
	api.Lt:     {"<", 7},
	api.Le:     {"<=", 7},
	api.Gt:     {">", 7},
	api.Ge:     {">=", 7},
	api.Eq:     {"==", 6},
	api.Ne:     {"!=", 6},
	api.Both:   {"&&", 2},
	api.Either: {"||", 1},
	api.Neg:    {"-", 0},
	api.Inv:    {"~", 0},
	api.Not:    {"!", 0},
	api.I8:     {"i8", 0},
	api.I16:    {"i16", 0},
	api.I32:    {"i32", 0},
	api.U8:     {"u8", 0},
	api.U16:    {"u16", 0},
	api.U32:    {"u32", 0},
}

// One is the result of an operator with one operand, or 0 if op is none.
func One(op, a int) int {
	switch op {
	case api.Neg:
		return -a
	case api.Inv:
		return ^a
	case api.Not:
		return number(a == 0)
	case api.I8:
		return int(int8(a))
	case api.I16:
		return int(int16(a))
	case api.I32:
		return int(int32(a))
	case api.U8:
		return int(uint8(a))
	case api.U16:
		return int(uint16(a))
	case api.U32:
		return int(uint32(a))
	}
	return 0
}

// Two is the result of an operator with two operands. It answers false where
// there is no result: for a division by 0, for Both and Either (which do not
// always want their second operand), and for what is no such operator.
func Two(op, a, b int) (int, bool) {
	switch op {
	case api.Add:
		return a + b, true
	case api.Sub:
		return a - b, true
	case api.Mul:
		return a * b, true
	case api.Div, api.Rem:
		return divide(op, a, b)
	case api.And:
		return a & b, true
	case api.Or:
		return a | b, true
	case api.Xor:
		return a ^ b, true
	case api.Shl, api.Shr, api.Ushr:
		return shift(op, a, b), true
	case api.Lt, api.Le, api.Gt, api.Ge, api.Eq, api.Ne:
		return number(holds(op, a, b)), true
	}
	return 0, false
}

// divide is the quotient for Div and the remainder for Rem; Go truncates
// towards 0 as the language does, and wraps the lowest number over -1.
func divide(op, a, b int) (int, bool) {
	if b == 0 {
		return 0, false
	}
	if op == api.Div {
		return a / b, true
	}
	return a % b, true
}

// shift takes only the lowest six bits of b: Go's own shift would panic for a
// count below 0, and lose all bits for one beyond 63.
func shift(op, a, b int) int {
	count := uint(b) & 63
	switch op {
	case api.Shl:
		return a << count
	case api.Shr:
		return a >> count
	}
	return int(uint(a) >> count)
}

// holds tells whether the comparison op of a and b is true.
func holds(op, a, b int) bool {
	switch op {
	case api.Lt:
		return a < b
	case api.Le:
		return a <= b
	case api.Gt:
		return a > b
	case api.Ge:
		return a >= b
	case api.Eq:
		return a == b
	}
	return a != b
}

// number is the truth value of the language for t.
func number(t bool) int {
	if t {
		return 1
	}
	return 0
}

// Sign is the symbol of an operator, or the empty string if op is none.
func Sign(op int) string {
	return rowOf(op).sign
}

// Level is the precedence level of an operator with two operands, from 1 on
// (what binds tighter has the greater one), or 0 if op is none.
func Level(op int) int {
	return rowOf(op).level
}

// rowOf is the row of an operator, or the zero row if op is none.
func rowOf(op int) row {
	if op < api.Add || op > api.U32 {
		return row{}
	}
	return rows[op]
}
