package wrap_test

import (
	"math"
	"math/big"
	"math/rand"
	"testing"

	"boxhedge/api"
	"boxhedge/wrap"
)

const (
	least    = math.MinInt64
	greatest = math.MaxInt64
)

// Operators by how many operands they have, and numbers that are no operators.
var (
	ones    = []int{api.Neg, api.Inv, api.Not, api.I8, api.I16, api.I32, api.U8, api.U16, api.U32}
	twos    = []int{api.Add, api.Sub, api.Mul, api.Div, api.Rem, api.And, api.Or, api.Xor, api.Shl, api.Shr, api.Ushr, api.Lt, api.Le, api.Gt, api.Ge, api.Eq, api.Ne}
	lazies  = []int{api.Both, api.Either}
	strange = []int{0, -1, -2, 29, 30, 64, 100, 256 + api.Add, 1<<32 + api.Add, least, least + api.Add, greatest}
)

// samples are the ends of each conversion's range with their neighbours, some everyday numbers, and some with bits all over.
func samples() []int {
	l := []int{0, 1, 2, 3, 5, 7, 10, 42, 100, 1000003, greatest, greatest - 1, least, least + 1}
	for _, bits := range []int{7, 8, 15, 16, 31, 32, 33, 62} {
		n := 1 << bits
		l = append(l, n-1, n, n+1)
	}
	r := rand.New(rand.NewSource(1))
	for range 20 {
		l = append(l, int(r.Uint64()), int(r.Uint64()>>r.Intn(64)))
	}
	for _, n := range l[:len(l):len(l)] {
		l = append(l, -n)
	}
	return l
}

// wrapped is n cut to its lowest bits, read as a signed number or as one that is not.
func wrapped(n *big.Int, bits uint, signed bool) int {
	size := new(big.Int).Lsh(big.NewInt(1), bits)
	low := new(big.Int).Mod(n, size)
	if signed && low.Bit(int(bits)-1) == 1 {
		low.Sub(low, size)
	}
	return int(low.Int64())
}

func number(t bool) int {
	if t {
		return 1
	}
	return 0
}

// wantOne is A1 over numbers without bounds.
func wantOne(op, a int) int {
	n := big.NewInt(int64(a))
	switch op {
	case api.Neg:
		return wrapped(new(big.Int).Neg(n), 64, true)
	case api.Inv:
		return wrapped(new(big.Int).Not(n), 64, true)
	case api.Not:
		return number(n.Sign() == 0)
	case api.I8:
		return wrapped(n, 8, true)
	case api.I16:
		return wrapped(n, 16, true)
	case api.I32:
		return wrapped(n, 32, true)
	case api.U8:
		return wrapped(n, 8, false)
	case api.U16:
		return wrapped(n, 16, false)
	}
	return wrapped(n, 32, false)
}

// wantTwo is A2 over numbers without bounds.
func wantTwo(op, a, b int) (int, bool) {
	x, y := big.NewInt(int64(a)), big.NewInt(int64(b))
	count := uint(wrapped(y, 6, false))
	n := new(big.Int)
	switch op {
	case api.Add:
		n.Add(x, y)
	case api.Sub:
		n.Sub(x, y)
	case api.Mul:
		n.Mul(x, y)
	case api.Div, api.Rem:
		if b == 0 {
			return 0, false
		}
		quotient, rest := new(big.Int).QuoRem(x, y, n)
		if op == api.Div {
			n = quotient
		} else {
			n = rest
		}
	case api.And:
		n.And(x, y)
	case api.Or:
		n.Or(x, y)
	case api.Xor:
		n.Xor(x, y)
	case api.Shl:
		n.Lsh(x, count)
	case api.Shr:
		n.Rsh(x, count)
	case api.Ushr:
		if a < 0 {
			x.Add(x, new(big.Int).Lsh(big.NewInt(1), 64))
		}
		n.Rsh(x, count)
	default:
		return number(wantTruth(op, x.Cmp(y))), true
	}
	return wrapped(n, 64, true), true
}

// wantTruth is what a comparison says of two numbers whose order is sign.
func wantTruth(op, sign int) bool {
	switch op {
	case api.Lt:
		return sign < 0
	case api.Le:
		return sign <= 0
	case api.Gt:
		return sign > 0
	case api.Ge:
		return sign >= 0
	case api.Eq:
		return sign == 0
	}
	return sign != 0
}

func TestA1Edges(t *testing.T) {
	for _, x := range []struct{ op, a, want int }{
		{api.Neg, 0, 0}, {api.Neg, 5, -5}, {api.Neg, -5, 5}, {api.Neg, greatest, least + 1}, {api.Neg, least, least},
		{api.Inv, 0, -1}, {api.Inv, -1, 0}, {api.Inv, 5, -6}, {api.Inv, least, greatest}, {api.Inv, greatest, least},
		{api.Not, 0, 1}, {api.Not, 1, 0}, {api.Not, 2, 0}, {api.Not, -1, 0}, {api.Not, least, 0}, {api.Not, 1 << 32, 0},
		{api.I8, 127, 127}, {api.I8, 128, -128}, {api.I8, 200, -56}, {api.I8, 255, -1}, {api.I8, 256, 0}, {api.I8, -128, -128}, {api.I8, -129, 127}, {api.I8, least, 0}, {api.I8, greatest, -1},
		{api.I16, 32767, 32767}, {api.I16, 32768, -32768}, {api.I16, 65535, -1}, {api.I16, 65536, 0}, {api.I16, -32768, -32768}, {api.I16, -32769, 32767}, {api.I16, greatest, -1},
		{api.I32, 1<<31 - 1, 1<<31 - 1}, {api.I32, 1 << 31, -1 << 31}, {api.I32, 1<<32 - 1, -1}, {api.I32, 1 << 32, 0}, {api.I32, -1 << 31, -1 << 31}, {api.I32, -1<<31 - 1, 1<<31 - 1}, {api.I32, greatest, -1},
		{api.U8, 255, 255}, {api.U8, 256, 0}, {api.U8, -1, 255}, {api.U8, -256, 0}, {api.U8, least, 0}, {api.U8, greatest, 255},
		{api.U16, 65535, 65535}, {api.U16, 65536, 0}, {api.U16, -1, 65535}, {api.U16, -65536, 0}, {api.U16, greatest, 65535},
		{api.U32, 1<<32 - 1, 1<<32 - 1}, {api.U32, 1 << 32, 0}, {api.U32, -1, 1<<32 - 1}, {api.U32, -1 << 32, 0}, {api.U32, least, 0}, {api.U32, greatest, 1<<32 - 1},
	} {
		if n := wrap.One(x.op, x.a); n != x.want {
			t.Errorf("A1: One(%d, %d) = %d, want %d", x.op, x.a, n, x.want)
		}
	}
}

func TestA1Samples(t *testing.T) {
	for _, op := range ones {
		for _, a := range samples() {
			if n, want := wrap.One(op, a), wantOne(op, a); n != want {
				t.Errorf("A1: One(%d, %d) = %d, want %d", op, a, n, want)
			}
		}
	}
}

func TestA1NoOperator(t *testing.T) {
	for _, ops := range [][]int{twos, lazies, strange} {
		for _, op := range ops {
			for _, a := range samples() {
				if n := wrap.One(op, a); n != 0 {
					t.Errorf("A1: One(%d, %d) = %d, want 0", op, a, n)
				}
			}
		}
	}
}

func TestA2Edges(t *testing.T) {
	for _, x := range []struct{ op, a, b, want int }{
		{api.Add, 2, 3, 5}, {api.Add, greatest, 1, least}, {api.Add, least, -1, greatest}, {api.Add, least, least, 0},
		{api.Sub, 2, 3, -1}, {api.Sub, least, 1, greatest}, {api.Sub, greatest, -1, least}, {api.Sub, 0, least, least},
		{api.Mul, 6, 7, 42}, {api.Mul, -6, 7, -42}, {api.Mul, least, -1, least}, {api.Mul, 1 << 32, 1 << 32, 0}, {api.Mul, greatest, greatest, 1}, {api.Mul, greatest, 2, -2},
		{api.Div, 7, 2, 3}, {api.Div, -7, 2, -3}, {api.Div, 7, -2, -3}, {api.Div, -7, -2, 3}, {api.Div, 0, 5, 0}, {api.Div, least, -1, least}, {api.Div, least, least, 1}, {api.Div, greatest, least, 0},
		{api.Rem, 7, 2, 1}, {api.Rem, -7, 2, -1}, {api.Rem, 7, -2, 1}, {api.Rem, -7, -2, -1}, {api.Rem, 0, 5, 0}, {api.Rem, least, -1, 0}, {api.Rem, least, greatest, -1}, {api.Rem, greatest, least, greatest},
		{api.And, 12, 10, 8}, {api.And, -1, least, least}, {api.Or, 12, 10, 14}, {api.Or, least, greatest, -1}, {api.Xor, 12, 10, 6}, {api.Xor, -1, -1, 0}, {api.Xor, least, -1, greatest},
		{api.Lt, 1, 2, 1}, {api.Lt, 2, 2, 0}, {api.Lt, -1, 0, 1}, {api.Lt, least, greatest, 1}, {api.Lt, greatest, least, 0},
		{api.Le, 1, 2, 1}, {api.Le, 2, 2, 1}, {api.Le, 0, -1, 0}, {api.Le, greatest, least, 0},
		{api.Gt, 2, 1, 1}, {api.Gt, 2, 2, 0}, {api.Gt, 0, -1, 1}, {api.Gt, least, greatest, 0},
		{api.Ge, 2, 1, 1}, {api.Ge, 2, 2, 1}, {api.Ge, -1, 0, 0}, {api.Ge, greatest, least, 1},
		{api.Eq, 2, 2, 1}, {api.Eq, 2, 3, 0}, {api.Eq, least, greatest, 0}, {api.Eq, 1, 1<<32 + 1, 0},
		{api.Ne, 2, 2, 0}, {api.Ne, 2, 3, 1}, {api.Ne, least, greatest, 1}, {api.Ne, 1, 1<<32 + 1, 1},
	} {
		if n, ok := wrap.Two(x.op, x.a, x.b); n != x.want || !ok {
			t.Errorf("A2: Two(%d, %d, %d) = %d, %v, want %d, true", x.op, x.a, x.b, n, ok, x.want)
		}
	}
}

func TestA2Shifts(t *testing.T) {
	for _, x := range []struct{ op, a, b, want int }{
		{api.Shl, 1, 0, 1}, {api.Shl, 1, 1, 2}, {api.Shl, 1, 63, least}, {api.Shl, 1, 64, 1}, {api.Shl, 1, 65, 2}, {api.Shl, 1, -1, least}, {api.Shl, 1, -64, 1}, {api.Shl, 3, 63, least}, {api.Shl, 2, 63, 0}, {api.Shl, -1, 8, -256}, {api.Shl, 1, least, 1}, {api.Shl, 1, greatest, least}, {api.Shl, 1, 1 << 32, 1}, {api.Shl, 1, 1<<32 + 3, 8},
		{api.Shr, -8, 0, -8}, {api.Shr, -8, 1, -4}, {api.Shr, 8, 1, 4}, {api.Shr, -1, 63, -1}, {api.Shr, least, 63, -1}, {api.Shr, greatest, 63, 0}, {api.Shr, -8, 64, -8}, {api.Shr, -8, 65, -4}, {api.Shr, -8, -1, -1}, {api.Shr, -8, -63, -4}, {api.Shr, 8, least, 8}, {api.Shr, -8, greatest, -1}, {api.Shr, -7, 1, -4},
		{api.Ushr, -1, 0, -1}, {api.Ushr, -1, 1, greatest}, {api.Ushr, -1, 60, 15}, {api.Ushr, -1, 63, 1}, {api.Ushr, -1, 64, -1}, {api.Ushr, -1, 65, greatest}, {api.Ushr, -1, -1, 1}, {api.Ushr, least, 63, 1}, {api.Ushr, 8, 1, 4}, {api.Ushr, -1, least, -1}, {api.Ushr, -1, greatest, 1}, {api.Ushr, -1, 1<<32 + 60, 15},
	} {
		if n, ok := wrap.Two(x.op, x.a, x.b); n != x.want || !ok {
			t.Errorf("A2: Two(%d, %d, %d) = %d, %v, want %d, true", x.op, x.a, x.b, n, ok, x.want)
		}
	}
}

func TestA2Samples(t *testing.T) {
	l := samples()
	for _, op := range twos {
		for _, a := range l {
			for _, b := range l {
				n, ok := wrap.Two(op, a, b)
				if want, right := wantTwo(op, a, b); n != want || ok != right {
					t.Errorf("A2: Two(%d, %d, %d) = %d, %v, want %d, %v", op, a, b, n, ok, want, right)
				}
			}
		}
	}
}

func TestA2AllCounts(t *testing.T) {
	for _, op := range []int{api.Shl, api.Shr, api.Ushr} {
		for count := -130; count <= 130; count++ {
			for _, a := range []int{1, -1, least, greatest, 0x5a5a5a5a5a5a5a5a} {
				n, _ := wrap.Two(op, a, count)
				if want, _ := wantTwo(op, a, count); n != want {
					t.Errorf("A2: Two(%d, %d, %d) = %d, want %d", op, a, count, n, want)
				}
			}
		}
	}
}

func TestA2DivisionByZero(t *testing.T) {
	for _, op := range []int{api.Div, api.Rem} {
		for _, a := range samples() {
			if n, ok := wrap.Two(op, a, 0); n != 0 || ok {
				t.Errorf("A2: Two(%d, %d, 0) = %d, %v, want 0, false", op, a, n, ok)
			}
		}
	}
}

func TestA2NoOperator(t *testing.T) {
	for _, ops := range [][]int{ones, lazies, strange} {
		for _, op := range ops {
			for _, x := range [][2]int{{0, 0}, {1, 0}, {0, 1}, {1, 1}, {7, -3}, {least, -1}, {greatest, greatest}} {
				if n, ok := wrap.Two(op, x[0], x[1]); n != 0 || ok {
					t.Errorf("A2: Two(%d, %d, %d) = %d, %v, want 0, false", op, x[0], x[1], n, ok)
				}
			}
		}
	}
}

func TestA3Table(t *testing.T) {
	table := map[int]struct {
		sign  string
		level int
	}{
		api.Add: {"+", 9}, api.Sub: {"-", 9}, api.Mul: {"*", 10}, api.Div: {"/", 10}, api.Rem: {"%", 10},
		api.And: {"&", 5}, api.Or: {"|", 3}, api.Xor: {"^", 4}, api.Shl: {"<<", 8}, api.Shr: {">>", 8}, api.Ushr: {">>>", 8},
		api.Lt: {"<", 7}, api.Le: {"<=", 7}, api.Gt: {">", 7}, api.Ge: {">=", 7}, api.Eq: {"==", 6}, api.Ne: {"!=", 6},
		api.Both: {"&&", 2}, api.Either: {"||", 1}, api.Neg: {"-", 0}, api.Inv: {"~", 0}, api.Not: {"!", 0},
		api.I8: {"i8", 0}, api.I16: {"i16", 0}, api.I32: {"i32", 0}, api.U8: {"u8", 0}, api.U16: {"u16", 0}, api.U32: {"u32", 0},
	}
	for op := api.Add; op <= api.U32; op++ {
		want, ok := table[op]
		if !ok {
			t.Fatalf("operator %d has no row in the test", op)
		}
		if s, n := wrap.Sign(op), wrap.Level(op); s != want.sign || n != want.level {
			t.Errorf("A3: operator %d has %q and %d, want %q and %d", op, s, n, want.sign, want.level)
		}
	}
}

func TestA3NoOperator(t *testing.T) {
	for _, op := range strange {
		if s, n := wrap.Sign(op), wrap.Level(op); s != "" || n != 0 {
			t.Errorf("A3: operator %d has %q and %d, want none", op, s, n)
		}
	}
}

// two is Two where it has a result.
func two(t *testing.T, op, a, b int) int {
	t.Helper()
	n, ok := wrap.Two(op, a, b)
	if !ok {
		t.Fatalf("Two(%d, %d, %d) has no result", op, a, b)
	}
	return n
}

func TestA4Quotient(t *testing.T) {
	l := samples()
	for _, a := range l {
		for _, b := range l {
			if b == 0 {
				continue
			}
			quotient, rest := two(t, api.Div, a, b), two(t, api.Rem, a, b)
			if n := two(t, api.Add, two(t, api.Mul, quotient, b), rest); n != a {
				t.Errorf("A4: %d / %d is %d with the rest %d, which give %d", a, b, quotient, rest, n)
			}
		}
	}
}

func TestA4Conversions(t *testing.T) {
	for _, op := range []int{api.I8, api.I16, api.I32, api.U8, api.U16, api.U32} {
		for _, a := range samples() {
			once := wrap.One(op, a)
			if twice := wrap.One(op, once); twice != once {
				t.Errorf("A4: operator %d makes %d of %d, and %d of that", op, once, a, twice)
			}
		}
	}
}

func TestA4ShiftedBack(t *testing.T) {
	for _, a := range samples() {
		for count := range 64 {
			left := two(t, api.Shl, a, count)
			low := uint64(1)<<(64-count) - 1
			if n := two(t, api.Ushr, left, count); uint64(n) != uint64(a)&low {
				t.Errorf("A4: %d by %d to the left and back is %d", a, count, n)
			}
			if n := two(t, api.Shr, left, count); uint64(n)&low != uint64(a)&low {
				t.Errorf("A4: %d by %d to the left and back, with its sign, is %d", a, count, n)
			}
		}
	}
}

func TestExamples(t *testing.T) {
	if n := wrap.One(api.I8, 200); n != -56 {
		t.Errorf("One(I8, 200) = %d", n)
	}
	if n, ok := wrap.Two(api.Ushr, -1, 60); n != 15 || !ok {
		t.Errorf("Two(Ushr, -1, 60) = %d, %v", n, ok)
	}
	if n, ok := wrap.Two(api.Div, -7, 2); n != -3 || !ok {
		t.Errorf("Two(Div, -7, 2) = %d, %v", n, ok)
	}
}
