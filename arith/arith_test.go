package arith_test

import (
	"math"
	"math/big"
	"strings"
	"testing"

	"noria/api"
	"noria/arith"
)

const (
	least = math.MinInt64
	most  = math.MaxInt64
)

// The types that an operator may tell.
var (
	none    = api.Ty{}
	integer = api.Ty{Kind: api.KInt}
	boolean = api.Ty{Kind: api.KBool}
)

// of makes a type.
func of(kind, enum, length int) api.Ty {
	return api.Ty{Kind: kind, Enum: enum, Len: length}
}

// nums are numbers about all edges, and far from them.
func nums() []int64 {
	l := []int64{
		least, least + 1, least + 2, least / 2, least/2 - 1, -3037000500, -1 << 33, -1<<32 - 1, -1 << 32, math.MinInt32 - 1, math.MinInt32, -65536, -257, -256, -255, -100,
		100, 255, 256, 257, 65536, math.MaxInt32, 1 << 31, 1<<32 - 1, 1 << 32, 1<<32 + 1, 1 << 33, 3037000499, 3037000500, most / 2, most/2 + 1, most - 2, most - 1, most,
		0x123456789abcdef, -0x123456789abcdef, 6700417, -641,
	}
	for n := int64(-9); n <= 9; n++ {
		l = append(l, n)
	}
	return l
}

// many are numbers all over an int64, by a rule of their own.
func many() []int64 {
	var l []int64
	n := uint64(88172645463325252)
	for range 300 {
		n ^= n << 13
		n ^= n >> 7
		n ^= n << 17
		l = append(l, int64(n), int64(n)>>(n%61))
	}
	return l
}

// others are numbers that no operator has.
func others() []int {
	l := []int{math.MinInt, math.MinInt + api.OpAdd, -1 << 32, -256, -17, -16, -3, -2, -1, 0, 17, 18, 19, 20, 31, 32, 33, 64, 100, 128 + api.OpEq, 255, 1000, math.MaxInt - 1, math.MaxInt}
	for op := api.OpNeg; op <= api.OpGe; op++ {
		l = append(l, 256+op, 1<<16+op, 1<<32+op, math.MinInt+op, -op)
	}
	return l
}

// ops are the operators from the one to the other.
func ops(from, to int) []int {
	var l []int
	for op := from; op <= to; op++ {
		l = append(l, op)
	}
	return l
}

// every is all operators, and what is none.
func every() []int {
	return append(others(), ops(api.OpNeg, api.OpGe)...)
}

// wrapped is n modulo 2^64, as a number with a sign.
func wrapped(n *big.Int) int64 {
	low := new(big.Int).And(n, new(big.Int).SetUint64(math.MaxUint64))
	return int64(low.Uint64())
}

// told is 1 of what holds, else 0.
func told(b bool) int64 {
	if b {
		return 1
	}
	return 0
}

// quotient is the quotient of a and b, cut towards 0, and what is left, by numbers without bounds.
func quotient(a, b int64) (int64, int64) {
	x, y := big.NewInt(a), big.NewInt(b)
	q := new(big.Int).Div(new(big.Int).Abs(x), new(big.Int).Abs(y))
	if x.Sign()*y.Sign() < 0 {
		q.Neg(q)
	}
	return wrapped(q), wrapped(new(big.Int).Sub(x, new(big.Int).Mul(q, y)))
}

// un is the model of Un.
func un(op int, a int64) (int64, api.Errno) {
	if op == api.OpNeg {
		return wrapped(new(big.Int).Neg(big.NewInt(a))), api.OK
	}
	if op == api.OpNot {
		return told(a == 0), api.OK
	}
	return 0, api.ErrArg
}

// bin is the model of Bin.
func bin(op int, a, b int64) (int64, api.Errno) {
	x, y := big.NewInt(a), big.NewInt(b)
	order := x.Cmp(y)
	if b == 0 && (op == api.OpDiv || op == api.OpMod) {
		return 0, api.ErrDiv
	}
	switch op {
	case api.OpAdd:
		return wrapped(new(big.Int).Add(x, y)), api.OK
	case api.OpSub:
		return wrapped(new(big.Int).Sub(x, y)), api.OK
	case api.OpMul:
		return wrapped(new(big.Int).Mul(x, y)), api.OK
	case api.OpDiv:
		q, _ := quotient(a, b)
		return q, api.OK
	case api.OpMod:
		_, left := quotient(a, b)
		return left, api.OK
	case api.OpAnd:
		return told(a != 0 && b != 0), api.OK
	case api.OpOr:
		return told(a != 0 || b != 0), api.OK
	case api.OpXor:
		return told((a == 0) != (b == 0)), api.OK
	case api.OpEq:
		return told(order == 0), api.OK
	case api.OpNe:
		return told(order != 0), api.OK
	case api.OpLt:
		return told(order == -1), api.OK
	case api.OpLe:
		return told(order != 1), api.OK
	case api.OpGt:
		return told(order == 1), api.OK
	case api.OpGe:
		return told(order != -1), api.OK
	}
	return 0, api.ErrArg
}

// askUn holds Un against what it ought to answer.
func askUn(t *testing.T, op int, a, want int64, err api.Errno) {
	t.Helper()
	if n, e := arith.Un(op, a); n != want || e != err {
		t.Errorf("Un(%d, %d): %d, %d; want %d, %d", op, a, n, e, want, err)
	}
}

// askBin holds Bin against what it ought to answer.
func askBin(t *testing.T, op int, a, b, want int64, err api.Errno) {
	t.Helper()
	if n, e := arith.Bin(op, a, b); n != want || e != err {
		t.Errorf("Bin(%d, %d, %d): %d, %d; want %d, %d", op, a, b, n, e, want, err)
	}
}

// askUnTy holds UnTy against what it ought to answer.
func askUnTy(t *testing.T, op int, a, want api.Ty) {
	t.Helper()
	if u, ok := arith.UnTy(op, a); u != want || ok != (want != none) {
		t.Errorf("UnTy(%d, %v): %v, %v; want %v", op, a, u, ok, want)
	}
}

// askBinTy holds BinTy against what it ought to answer.
func askBinTy(t *testing.T, op int, a, b, want api.Ty) {
	t.Helper()
	if u, ok := arith.BinTy(op, a, b); u != want || ok != (want != none) {
		t.Errorf("BinTy(%d, %v, %v): %v, %v; want %v", op, a, b, u, ok, want)
	}
}

// make1 is what op makes of a, which it must make something of.
func make1(t *testing.T, op int, a int64) int64 {
	t.Helper()
	n, err := arith.Un(op, a)
	if err != api.OK {
		t.Fatalf("Un(%d, %d): error %d", op, a, err)
	}
	return n
}

// make2 is what op makes of a and b, which it must make something of.
func make2(t *testing.T, op int, a, b int64) int64 {
	t.Helper()
	n, err := arith.Bin(op, a, b)
	if err != api.OK {
		t.Fatalf("Bin(%d, %d, %d): error %d", op, a, b, err)
	}
	return n
}

// The chapter's example.
func TestExample(t *testing.T) {
	askBin(t, api.OpDiv, -7, 2, -3, api.OK)
	askBin(t, api.OpMod, -7, 2, -1, api.OK)
	askBin(t, api.OpDiv, 1, 0, 0, api.ErrDiv)
}

// P7.1: OpNeg and OpNot of chosen numbers, what wraps among them.
func TestUnChosen(t *testing.T) {
	askUn(t, api.OpNeg, 0, 0, api.OK)
	askUn(t, api.OpNeg, 1, -1, api.OK)
	askUn(t, api.OpNeg, -1, 1, api.OK)
	askUn(t, api.OpNeg, 12, -12, api.OK)
	askUn(t, api.OpNeg, most, least+1, api.OK)
	askUn(t, api.OpNeg, least+1, most, api.OK)
	askUn(t, api.OpNeg, least, least, api.OK)
	askUn(t, api.OpNot, 0, 1, api.OK)
	for _, a := range []int64{1, 2, -1, -2, 7, 256, 1 << 32, -1 << 32, most, least} {
		askUn(t, api.OpNot, a, 0, api.OK)
	}
}

// P7.1: Un of every operator, and of what is none, against the model.
func TestUnAll(t *testing.T) {
	for _, op := range every() {
		for _, a := range append(nums(), many()...) {
			want, err := un(op, a)
			askUn(t, op, a, want, err)
		}
	}
}

// P7.1: operators of two sides, and what is no operator, are ErrArg of Un, with 0.
func TestUnWrong(t *testing.T) {
	for _, op := range append(others(), ops(api.OpAdd, api.OpGe)...) {
		for _, a := range nums() {
			askUn(t, op, a, 0, api.ErrArg)
		}
	}
}

// P7.2: OpAdd, OpSub and OpMul, what wraps among them.
func TestBinWraps(t *testing.T) {
	askBin(t, api.OpAdd, 2, 3, 5, api.OK)
	askBin(t, api.OpAdd, -2, -3, -5, api.OK)
	askBin(t, api.OpAdd, most, 1, least, api.OK)
	askBin(t, api.OpAdd, most, most, -2, api.OK)
	askBin(t, api.OpAdd, least, -1, most, api.OK)
	askBin(t, api.OpAdd, least, least, 0, api.OK)
	askBin(t, api.OpAdd, least, most, -1, api.OK)
	askBin(t, api.OpSub, 2, 3, -1, api.OK)
	askBin(t, api.OpSub, 3, -2, 5, api.OK)
	askBin(t, api.OpSub, least, 1, most, api.OK)
	askBin(t, api.OpSub, most, -1, least, api.OK)
	askBin(t, api.OpSub, 0, least, least, api.OK)
	askBin(t, api.OpSub, -1, least, most, api.OK)
	askBin(t, api.OpSub, 1, least, least+1, api.OK)
	askBin(t, api.OpSub, least, least, 0, api.OK)
	askBin(t, api.OpSub, least, most, 1, api.OK)
	askBin(t, api.OpMul, 6, -7, -42, api.OK)
	askBin(t, api.OpMul, least, -1, least, api.OK)
	askBin(t, api.OpMul, least, 2, 0, api.OK)
	askBin(t, api.OpMul, least, least, 0, api.OK)
	askBin(t, api.OpMul, least, most, least, api.OK)
	askBin(t, api.OpMul, most, most, 1, api.OK)
	askBin(t, api.OpMul, most, 2, -2, api.OK)
	askBin(t, api.OpMul, 1<<32, 1<<31, least, api.OK)
	askBin(t, api.OpMul, 1<<32, 1<<32, 0, api.OK)
}

// P7.2: OpDiv is cut towards 0, OpMod is what is left.
func TestBinDivides(t *testing.T) {
	for _, w := range []struct{ a, b, quotient, left int64 }{
		{7, 2, 3, 1}, {-7, 2, -3, -1}, {7, -2, -3, 1}, {-7, -2, 3, -1},
		{6, 3, 2, 0}, {-6, 3, -2, 0}, {6, -3, -2, 0}, {-6, -3, 2, 0},
		{1, 2, 0, 1}, {-1, 2, 0, -1}, {1, -2, 0, 1}, {-1, -2, 0, -1},
		{0, 5, 0, 0}, {0, -5, 0, 0}, {0, least, 0, 0}, {0, most, 0, 0},
		{least, -1, least, 0}, {least, 1, least, 0}, {most, -1, least + 1, 0}, {least + 1, -1, most, 0},
		{least, least, 1, 0}, {least, most, -1, -1}, {most, least, 0, most}, {most, most, 1, 0},
		{least, 2, -1 << 62, 0}, {least, -2, 1 << 62, 0}, {least, 3, -3074457345618258602, -2}, {most, 10, 922337203685477580, 7},
	} {
		askBin(t, api.OpDiv, w.a, w.b, w.quotient, api.OK)
		askBin(t, api.OpMod, w.a, w.b, w.left, api.OK)
	}
}

// P7.2: b of 0 is ErrDiv, with 0, of OpDiv and OpMod alone.
func TestBinZero(t *testing.T) {
	for _, a := range append(nums(), many()...) {
		for _, op := range ops(api.OpAdd, api.OpGe) {
			if op == api.OpDiv || op == api.OpMod {
				askBin(t, op, a, 0, 0, api.ErrDiv)
			} else if _, err := arith.Bin(op, a, 0); err != api.OK {
				t.Errorf("Bin(%d, %d, 0): error %d", op, a, err)
			}
		}
		for _, op := range append(others(), api.OpNeg, api.OpNot) {
			askBin(t, op, a, 0, 0, api.ErrArg)
		}
	}
}

// P7.2: OpAnd, OpOr and OpXor ask of whether a number is 0, of nothing else: 1 and 2 have no bit in common.
func TestBinTruths(t *testing.T) {
	sides := []int64{1, 2, -1, -2, 4, 256, 1 << 32, least, most}
	askBin(t, api.OpAnd, 0, 0, 0, api.OK)
	askBin(t, api.OpOr, 0, 0, 0, api.OK)
	askBin(t, api.OpXor, 0, 0, 0, api.OK)
	for _, a := range sides {
		for _, b := range sides {
			askBin(t, api.OpAnd, a, b, 1, api.OK)
			askBin(t, api.OpOr, a, b, 1, api.OK)
			askBin(t, api.OpXor, a, b, 0, api.OK)
		}
		for _, s := range [][2]int64{{0, a}, {a, 0}} {
			askBin(t, api.OpAnd, s[0], s[1], 0, api.OK)
			askBin(t, api.OpOr, s[0], s[1], 1, api.OK)
			askBin(t, api.OpXor, s[0], s[1], 1, api.OK)
		}
	}
}

// P7.2: the operators that compare, of sides that are equal, less and greater, with their signs.
func TestBinCompares(t *testing.T) {
	for op, want := range map[int][3]int64{
		api.OpEq: {1, 0, 0}, api.OpNe: {0, 1, 1}, api.OpLt: {0, 1, 0},
		api.OpLe: {1, 1, 0}, api.OpGt: {0, 0, 1}, api.OpGe: {1, 0, 1},
	} {
		for _, a := range nums() {
			askBin(t, op, a, a, want[0], api.OK)
		}
		for _, s := range [][2]int64{{least, most}, {least, -1}, {least, 0}, {-1, 0}, {-1, 1}, {0, 1}, {0, most}, {1, most}, {-2, -1}, {1, 2}, {least, least + 1}, {most - 1, most}, {1, 1 << 32}, {0, 1 << 32}} {
			askBin(t, op, s[0], s[1], want[1], api.OK)
			askBin(t, op, s[1], s[0], want[2], api.OK)
		}
	}
}

// P7.2: Bin of every operator, and of what is none, of all pairs of chosen numbers, against the model.
func TestBinAll(t *testing.T) {
	for _, op := range every() {
		for _, a := range nums() {
			for _, b := range nums() {
				want, err := bin(op, a, b)
				askBin(t, op, a, b, want, err)
			}
		}
	}
}

// P7.2: Bin of numbers all over an int64, against the model.
func TestBinMany(t *testing.T) {
	for _, op := range ops(api.OpAdd, api.OpGe) {
		l := many()
		for i, a := range l {
			for _, b := range []int64{l[(i+1)%len(l)], l[(i+7)%len(l)], a, -a, a + 1} {
				want, err := bin(op, a, b)
				askBin(t, op, a, b, want, err)
			}
		}
	}
}

// P7.2: operators of one side, and what is no operator, are ErrArg of Bin, with 0.
func TestBinWrong(t *testing.T) {
	for _, op := range append(others(), api.OpNeg, api.OpNot) {
		for _, a := range nums() {
			for _, b := range []int64{least, -1, 0, 1, 2, most} {
				askBin(t, op, a, b, 0, api.ErrArg)
			}
		}
	}
}

// tys are types: the right ones, those that differ from them in one field, and far ones.
func tys() []api.Ty {
	var l []api.Ty
	for _, kind := range []int{-1, 0, api.KInt, api.KBool, api.KEnum, 4, 256 + api.KInt, 1<<32 + api.KBool, math.MinInt, math.MaxInt} {
		for _, enum := range []int{-1, 0, 1, 3, 1 << 32, math.MinInt, math.MaxInt} {
			for _, length := range []int{-1, 0, 1, 8, 1 << 32, math.MinInt} {
				l = append(l, of(kind, enum, length))
			}
		}
	}
	return l
}

// binTy is the model of BinTy.
func binTy(op int, a, b api.Ty) api.Ty {
	ints := a == integer && b == integer
	bools := a == boolean && b == boolean
	switch {
	case api.OpAdd <= op && op <= api.OpMod && ints:
		return integer
	case api.OpAnd <= op && op <= api.OpXor && bools:
		return boolean
	case api.OpLt <= op && op <= api.OpGe && ints:
		return boolean
	case (op == api.OpEq || op == api.OpNe) && a.Kind == b.Kind && a.Enum == b.Enum && a.Len == 0 && b.Len == 0:
		return boolean
	}
	return none
}

// P7.3: UnTy of every operator, and of what is none, of all types: OpNeg of a number, OpNot of a truth.
func TestUnTy(t *testing.T) {
	askUnTy(t, api.OpNeg, integer, integer)
	askUnTy(t, api.OpNot, boolean, boolean)
	askUnTy(t, api.OpNeg, boolean, none)
	askUnTy(t, api.OpNot, integer, none)
	askUnTy(t, api.OpNeg, of(api.KEnum, 0, 0), none)
	askUnTy(t, api.OpNot, of(api.KEnum, 0, 0), none)
	for _, a := range tys() {
		for _, op := range every() {
			want := none
			if op == api.OpNeg && a == integer || op == api.OpNot && a == boolean {
				want = a
			}
			askUnTy(t, op, a, want)
		}
	}
}

// P7.3: UnTy of numbers and truths with a Len, or an Enum, that is not 0.
func TestUnTyFields(t *testing.T) {
	for _, n := range []int{-1, 1, 2, 8, 9, 256, 1 << 32, math.MinInt, math.MaxInt} {
		askUnTy(t, api.OpNeg, of(api.KInt, n, 0), none)
		askUnTy(t, api.OpNeg, of(api.KInt, 0, n), none)
		askUnTy(t, api.OpNot, of(api.KBool, n, 0), none)
		askUnTy(t, api.OpNot, of(api.KBool, 0, n), none)
	}
}

// P7.3: BinTy of numbers, of truths, and of the one beside the other.
func TestBinTyChosen(t *testing.T) {
	for _, op := range ops(api.OpAdd, api.OpGe) {
		ints, bools := none, none
		switch op {
		case api.OpAdd, api.OpSub, api.OpMul, api.OpDiv, api.OpMod:
			ints = integer
		case api.OpAnd, api.OpOr, api.OpXor:
			bools = boolean
		case api.OpEq, api.OpNe:
			ints, bools = boolean, boolean
		default:
			ints = boolean
		}
		askBinTy(t, op, integer, integer, ints)
		askBinTy(t, op, boolean, boolean, bools)
		askBinTy(t, op, integer, boolean, none)
		askBinTy(t, op, boolean, integer, none)
	}
}

// P7.3: OpEq and OpNe of two that are the same, whatever they are, if they are no arrays; other operators of none of these.
func TestBinTySame(t *testing.T) {
	for _, kind := range []int{-5, -1, 0, api.KInt, api.KBool, api.KEnum, 4, 77, math.MinInt, math.MaxInt} {
		for _, enum := range []int{-1, 0, 1, 2, 3, 4, 99, math.MinInt, math.MaxInt} {
			a := of(kind, enum, 0)
			for _, op := range []int{api.OpEq, api.OpNe} {
				askBinTy(t, op, a, a, boolean)
				askBinTy(t, op, a, of(kind, enum+1, 0), none)
				askBinTy(t, op, of(kind+1, enum, 0), a, none)
				for _, length := range []int{-1, 1, 8, 1 << 32, math.MinInt, math.MaxInt} {
					askBinTy(t, op, of(kind, enum, length), of(kind, enum, length), none)
					askBinTy(t, op, a, of(kind, enum, length), none)
					askBinTy(t, op, of(kind, enum, length), a, none)
				}
			}
			for _, op := range []int{api.OpAdd, api.OpMod, api.OpAnd, api.OpXor, api.OpLt, api.OpGe} {
				if a != integer && a != boolean {
					askBinTy(t, op, a, a, none)
				}
			}
		}
	}
}

// P7.3: BinTy of every operator, of all pairs of types, against the model.
func TestBinTyAll(t *testing.T) {
	for _, op := range append(ops(api.OpNeg, api.OpGe), 0, -1, 17, 256+api.OpEq) {
		for _, a := range tys() {
			for _, b := range tys() {
				askBinTy(t, op, a, b, binTy(op, a, b))
			}
		}
	}
}

// P7.3: operators of one side, and what is no operator, have no type of two sides.
func TestBinTyWrong(t *testing.T) {
	for _, op := range append(others(), api.OpNeg, api.OpNot) {
		for _, a := range tys() {
			askBinTy(t, op, a, a, none)
		}
	}
}

// P7.1, P7.2: what has the type KBool (P7.3) is 0 or 1 and nothing else.
func TestTruthsTold(t *testing.T) {
	for _, a := range nums() {
		if n := make1(t, api.OpNot, a); n != 0 && n != 1 {
			t.Errorf("Un(%d, %d): %d", api.OpNot, a, n)
		}
		for _, b := range nums() {
			for _, op := range ops(api.OpAnd, api.OpGe) {
				if n := make2(t, op, a, b); n != 0 && n != 1 {
					t.Errorf("Bin(%d, %d, %d): %d", op, a, b, n)
				}
			}
		}
	}
}

// P7.3: the signs in the order of the operators' numbers; of others the sign is empty.
func TestSign(t *testing.T) {
	signs := strings.Fields("- not + - * / mod and or xor = <> < <= > >=")
	for i, op := range ops(api.OpNeg, api.OpGe) {
		if s := arith.Sign(op); s != signs[i] {
			t.Errorf("Sign(%d): %q; want %q", op, s, signs[i])
		}
	}
	for _, op := range others() {
		if s := arith.Sign(op); s != "" {
			t.Errorf("Sign(%d): %q; want it empty", op, s)
		}
	}
}

// P7.4: adding, multiplying, and all that tells KBool but the four that order, do not change with the sides; the other operators do.
func TestSidesChanged(t *testing.T) {
	same := []int{api.OpAdd, api.OpMul, api.OpAnd, api.OpOr, api.OpXor, api.OpEq, api.OpNe}
	l := append(nums(), many()[:40]...)
	for _, a := range l {
		for _, b := range l {
			for _, op := range same {
				if m, n := make2(t, op, a, b), make2(t, op, b, a); m != n {
					t.Errorf("operator %d: %d of %d and %d, %d of %d and %d", op, m, a, b, n, b, a)
				}
			}
		}
	}
	for _, op := range []int{api.OpSub, api.OpDiv, api.OpMod, api.OpLt, api.OpLe, api.OpGt, api.OpGe} {
		if make2(t, op, 7, 2) == make2(t, op, 2, 7) {
			t.Errorf("operator %d does not tell its sides apart", op)
		}
	}
}

// P7.4: what is taken away and added again is what it was, whatever wraps; and so the other way round.
func TestTakenAndAdded(t *testing.T) {
	l := append(nums(), many()[:40]...)
	for _, a := range l {
		for _, b := range l {
			if n := make2(t, api.OpAdd, make2(t, api.OpSub, a, b), b); n != a {
				t.Errorf("%d less %d and %d: %d", a, b, b, n)
			}
			if n := make2(t, api.OpSub, make2(t, api.OpAdd, a, b), b); n != a {
				t.Errorf("%d and %d less %d: %d", a, b, b, n)
			}
		}
	}
}

// P7.4: the quotient, times b, and what is left, are a; what is left is nearer to 0 than b, and on a's side of it.
func TestQuotientAndLeft(t *testing.T) {
	l := append(nums(), many()...)
	for _, a := range l {
		for _, b := range l {
			if b == 0 {
				continue
			}
			left := make2(t, api.OpMod, a, b)
			if n := make2(t, api.OpAdd, make2(t, api.OpMul, make2(t, api.OpDiv, a, b), b), left); n != a {
				t.Errorf("the quotient of %d and %d, times %d, and %d: %d", a, b, b, left, n)
			}
			if big.NewInt(left).CmpAbs(big.NewInt(b)) >= 0 || left < 0 && a > 0 || left > 0 && a < 0 {
				t.Errorf("of %d by %d there is left %d", a, b, left)
			}
		}
	}
}
