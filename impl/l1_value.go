package impl

import (
	"cmp"
	"math"
	"math/bits"
	"strconv"
)

const (
	KNil = iota
	KBool
	KInt
	KFlt
	KStr
	KTable
	KFn
	KTask
	KBuiltin
)

const (
	OpAdd = iota + 1
	OpSub
	OpMul
	OpDiv
	OpIDiv
	OpMod
	OpAnd
	OpOr
	OpXor
	OpShl
	OpShr
	OpJoin
	OpEq
	OpNe
	OpLt
	OpLe
	OpGt
	OpGe
	OpNeg
	OpFlip
	OpNot
	OpLen
)

const (
	ErrType = iota + 1
	ErrZero
	ErrRange
	ErrLong
	ErrKey
	ErrCall
	ErrIndex
	ErrDepth
	ErrCells
	ErrTask
	ErrLoop
	ErrArgs
	ErrTicks
	ErrStep
	ErrUnit
)

const MaxStr = 4000

// What Compare answers; unordered is for a NaN, unlike for values that have no order.
const (
	less = iota - 1
	equal
	greater
	unordered
	unlike
)

// The ints are the whole numbers from lowestInt up to below beyondInt; both are exact as floats, the greatest int is not.
const (
	lowestInt = -(1 << 63)
	beyondInt = 1 << 63
)

// Value is a value of the language.
type Value struct {
	Kind int
	Num  int64
	Flt  float64
	Str  string
	Ref  int
}

// Valued is a value, or the code of an error.
type Valued struct {
	Code  int
	Value Value
}

// term is a valid value without the fields that its kind does not use. The types behind it are comparable, so that == of two terms never panics.
type term interface {
	truth() bool
	text() string
}

type nilTerm struct{}
type boolTerm bool
type intTerm int64
type fltTerm float64
type strTerm string
type builtinTerm int64

// refTerm is a table, a fn or a task.
type refTerm struct{ kind, ref int }

func (nilTerm) truth() bool     { return false }
func (t boolTerm) truth() bool  { return bool(t) }
func (intTerm) truth() bool     { return true }
func (fltTerm) truth() bool     { return true }
func (strTerm) truth() bool     { return true }
func (builtinTerm) truth() bool { return true }
func (refTerm) truth() bool     { return true }

func (nilTerm) text() string     { return "nil" }
func (t boolTerm) text() string  { return strconv.FormatBool(bool(t)) }
func (t intTerm) text() string   { return strconv.FormatInt(int64(t), 10) }
func (t fltTerm) text() string   { return fltText(float64(t)) }
func (t strTerm) text() string   { return string(t) }
func (builtinTerm) text() string { return "builtin" }

func (t refTerm) text() string {
	switch t.kind {
	case KTable:
		return "table"
	case KFn:
		return "fn"
	}
	return "task"
}

func fltText(f float64) string {
	switch {
	case math.IsNaN(f):
		return "nan"
	case math.IsInf(f, 1):
		return "inf"
	case math.IsInf(f, -1):
		return "-inf"
	case f == 0 && math.Signbit(f):
		return "-0p0"
	case f == 0:
		return "0p0"
	}
	// 53 bits hold every mantissa, those of subnormal floats too, so this product is whole and exact.
	fraction, exponent := math.Frexp(f)
	m := int64(fraction * (1 << 53))
	zeros := bits.TrailingZeros64(uint64(m))
	return strconv.FormatInt(m>>zeros, 10) + "p" + strconv.Itoa(exponent-53+zeros)
}

// termOf answers nil for a value that is not valid.
func termOf(v Value) term {
	if !unusedEmpty(v) {
		return nil
	}
	switch v.Kind {
	case KNil:
		return nilTerm{}
	case KBool:
		if v.Num == 0 || v.Num == 1 {
			return boolTerm(v.Num == 1)
		}
	case KInt:
		return intTerm(v.Num)
	case KFlt:
		return fltTerm(v.Flt)
	case KStr:
		if len(v.Str) <= MaxStr {
			return strTerm(v.Str)
		}
	case KTable, KFn, KTask:
		if v.Ref >= 0 {
			return refTerm{v.Kind, v.Ref}
		}
	case KBuiltin:
		if v.Num >= 0 && v.Num < Builtins {
			return builtinTerm(v.Num)
		}
	}
	return nil
}

func unusedEmpty(v Value) bool {
	switch v.Kind {
	case KBool, KInt, KBuiltin:
		v.Num = 0
	case KFlt:
		v.Flt = 0
	case KStr:
		v.Str = ""
	case KTable, KFn, KTask:
		v.Ref = 0
	}
	// == takes a zero of either sign for 0, as the document asks for fields that are not used.
	return v == Value{Kind: v.Kind}
}

func failed(code int) Valued { return Valued{Code: code} }

func gaveBool(b bool) Valued {
	v := Value{Kind: KBool}
	if b {
		v.Num = 1
	}
	return Valued{Value: v}
}

func gaveInt(n int64) Valued { return Valued{Value: Value{Kind: KInt, Num: n}} }

func gaveFlt(f float64) Valued { return Valued{Value: Value{Kind: KFlt, Flt: f}} }

func gaveStr(s string) Valued { return Valued{Value: Value{Kind: KStr, Str: s}} }

// ValueOk tells whether a value is valid.
func ValueOk(v Value) bool { return termOf(v) != nil }

// Truth is what a condition makes of a value.
func Truth(v Value) bool {
	x := termOf(v)
	return x != nil && x.truth()
}

// Same tells whether two values are the same for the language.
func Same(a, b Value) bool { return sameTerms(termOf(a), termOf(b)) }

func sameTerms(x, y term) bool {
	if c := compareTerms(x, y); c != unlike {
		return c == equal
	}
	return x != nil && x == y
}

// Compare tells how two numbers or two strings stand to each other.
func Compare(a, b Value) int { return compareTerms(termOf(a), termOf(b)) }

func compareTerms(x, y term) int {
	switch a := x.(type) {
	case strTerm:
		if b, ok := y.(strTerm); ok {
			return cmp.Compare(a, b)
		}
	case intTerm:
		switch b := y.(type) {
		case intTerm:
			return cmp.Compare(a, b)
		case fltTerm:
			return compareIntFlt(int64(a), float64(b))
		}
	case fltTerm:
		switch b := y.(type) {
		case intTerm:
			return turned(compareIntFlt(int64(b), float64(a)))
		case fltTerm:
			return compareFlts(float64(a), float64(b))
		}
	}
	return unlike
}

func compareFlts(a, b float64) int {
	switch {
	case a < b:
		return less
	case a > b:
		return greater
	case a == b:
		return equal
	}
	return unordered
}

// compareIntFlt never makes the int a float: above 2^53 that would round it.
func compareIntFlt(a int64, b float64) int {
	switch {
	case math.IsNaN(b):
		return unordered
	case b >= beyondInt:
		return less
	case b < lowestInt:
		return greater
	}
	floor := math.Floor(b)
	if c := cmp.Compare(a, int64(floor)); c != equal {
		return c
	}
	return compareFlts(floor, b)
}

func turned(c int) int {
	if c == less || c == greater {
		return -c
	}
	return c
}

// Binary does an operation on two values.
func Binary(op int, a, b Value) Valued {
	x, y := termOf(a), termOf(b)
	if x == nil || y == nil {
		return failed(ErrType)
	}
	switch op {
	case OpAdd, OpSub, OpMul, OpDiv, OpIDiv, OpMod:
		return arithmetic(op, x, y)
	case OpAnd, OpOr, OpXor, OpShl, OpShr:
		return bitwise(op, x, y)
	case OpJoin:
		return joined(x, y)
	case OpEq:
		return gaveBool(sameTerms(x, y))
	case OpNe:
		return gaveBool(!sameTerms(x, y))
	case OpLt, OpLe, OpGt, OpGe:
		return ordered(op, compareTerms(x, y))
	}
	return failed(ErrType)
}

func arithmetic(op int, x, y term) Valued {
	if a, b, ok := asInts(x, y); ok && op != OpDiv {
		return intArithmetic(op, a, b)
	}
	a, aOk := asFlt(x)
	b, bOk := asFlt(y)
	if !aOk || !bOk {
		return failed(ErrType)
	}
	return fltArithmetic(op, a, b)
}

func asInts(x, y term) (int64, int64, bool) {
	a, aOk := x.(intTerm)
	b, bOk := y.(intTerm)
	return int64(a), int64(b), aOk && bOk
}

func asFlt(x term) (float64, bool) {
	switch n := x.(type) {
	case intTerm:
		return float64(n), true
	case fltTerm:
		return float64(n), true
	}
	return 0, false
}

func intArithmetic(op int, a, b int64) Valued {
	switch op {
	case OpAdd:
		return gaveInt(a + b)
	case OpSub:
		return gaveInt(a - b)
	case OpMul:
		return gaveInt(a * b)
	}
	if b == 0 {
		return failed(ErrZero)
	}
	quotient := floorQuotient(a, b)
	if op == OpMod {
		return gaveInt(a - b*quotient)
	}
	return gaveInt(quotient)
}

// floorQuotient wants a b that is not 0; Go's own division goes towards 0, and wraps the least int by -1 as asked.
func floorQuotient(a, b int64) int64 {
	quotient := a / b
	if a%b != 0 && (a < 0) != (b < 0) {
		quotient--
	}
	return quotient
}

func fltArithmetic(op int, a, b float64) Valued {
	switch op {
	case OpAdd:
		return gaveFlt(a + b)
	case OpSub:
		return gaveFlt(a - b)
	case OpMul:
		return gaveFlt(a * b)
	case OpDiv:
		return gaveFlt(a / b)
	}
	floor := math.Floor(a / b)
	if op == OpMod {
		// The conversion keeps the product from being fused with the subtraction: each is rounded by itself.
		return gaveFlt(a - float64(floor*b))
	}
	return gaveFlt(floor)
}

func bitwise(op int, x, y term) Valued {
	a, b, ok := asInts(x, y)
	if !ok {
		return failed(ErrType)
	}
	switch op {
	case OpAnd:
		return gaveInt(a & b)
	case OpOr:
		return gaveInt(a | b)
	case OpXor:
		return gaveInt(a ^ b)
	}
	if b < 0 {
		return failed(ErrRange)
	}
	// Without a sign, zeros come in at both ends, and a shift by more than 63 leaves 0.
	if op == OpShl {
		return gaveInt(int64(uint64(a) << uint64(b)))
	}
	return gaveInt(int64(uint64(a) >> uint64(b)))
}

func joined(x, y term) Valued {
	if !joins(x) || !joins(y) {
		return failed(ErrType)
	}
	a, b := x.text(), y.text()
	if len(a)+len(b) > MaxStr {
		return failed(ErrLong)
	}
	return gaveStr(a + b)
}

func joins(x term) bool {
	switch x.(type) {
	case strTerm, intTerm, fltTerm:
		return true
	}
	return false
}

func ordered(op, c int) Valued {
	if c == unlike {
		return failed(ErrType)
	}
	switch op {
	case OpLt:
		return gaveBool(c == less)
	case OpLe:
		return gaveBool(c == less || c == equal)
	case OpGt:
		return gaveBool(c == greater)
	}
	return gaveBool(c == greater || c == equal)
}

// Unary does an operation on one value.
func Unary(op int, v Value) Valued {
	switch x := termOf(v); op {
	case OpNeg:
		return negated(x)
	case OpFlip:
		if n, ok := x.(intTerm); ok {
			return gaveInt(int64(^n))
		}
	case OpNot:
		if x != nil {
			return gaveBool(!x.truth())
		}
	case OpLen:
		if s, ok := x.(strTerm); ok {
			return gaveInt(int64(len(s)))
		}
	}
	return failed(ErrType)
}

func negated(x term) Valued {
	switch n := x.(type) {
	case intTerm:
		return gaveInt(int64(-n))
	case fltTerm:
		return gaveFlt(float64(-n))
	}
	return failed(ErrType)
}

// Text is a value as it is printed and joined.
func Text(v Value) string {
	if x := termOf(v); x != nil {
		return x.text()
	}
	return ""
}

// Key is what a value is as a key of a table.
func Key(v Value) Valued {
	switch x := termOf(v).(type) {
	case nil:
		return failed(ErrType)
	case nilTerm:
		return failed(ErrKey)
	case fltTerm:
		return fltKey(v, float64(x))
	}
	return Valued{Value: v}
}

func fltKey(v Value, f float64) Valued {
	if math.IsNaN(f) {
		return failed(ErrKey)
	}
	if f >= lowestInt && f < beyondInt && f == math.Floor(f) {
		return gaveInt(int64(f))
	}
	return Valued{Value: v}
}
