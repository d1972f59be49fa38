package tests

import (
	"math"
	"math/big"
	"testing"

	"loop.example/punch/impl"
)

func wrapped(n *big.Int) int64 {
	low := new(big.Int).And(n, new(big.Int).SetUint64(math.MaxUint64))
	return int64(low.Uint64())
}

// floorOf divides by a divisor above 0, where big's division goes down as a floor does.
func floorOf(a, b *big.Int) *big.Int {
	if b.Sign() < 0 {
		a, b = new(big.Int).Neg(a), new(big.Int).Neg(b)
	}
	return new(big.Int).Div(a, b)
}

func intAnswer(op int, x, y int64) impl.Valued {
	a, b, n := big.NewInt(x), big.NewInt(y), new(big.Int)
	switch op {
	case impl.OpAdd:
		n.Add(a, b)
	case impl.OpSub:
		n.Sub(a, b)
	case impl.OpMul:
		n.Mul(a, b)
	case impl.OpAnd:
		n.And(a, b)
	case impl.OpOr:
		n.Or(a, b)
	case impl.OpXor:
		n.Xor(a, b)
	case impl.OpIDiv, impl.OpMod:
		if y == 0 {
			return fails(impl.ErrZero)
		}
		n = floorOf(a, b)
		if op == impl.OpMod {
			n.Sub(a, n.Mul(n, b))
		}
	case impl.OpShl, impl.OpShr:
		if y < 0 {
			return fails(impl.ErrRange)
		}
		a.And(a, new(big.Int).SetUint64(math.MaxUint64))
		if y > 63 {
			a.SetInt64(0)
		} else if op == impl.OpShl {
			n.Lsh(a, uint(y))
		} else {
			n.Rsh(a, uint(y))
		}
	}
	return gives(intOf(wrapped(n)))
}

func TestIntsWrapAndFloor(t *testing.T) {
	ops := []int{impl.OpAdd, impl.OpSub, impl.OpMul, impl.OpIDiv, impl.OpMod, impl.OpAnd, impl.OpOr, impl.OpXor, impl.OpShl, impl.OpShr}
	for _, op := range ops {
		for _, a := range edgeInts() {
			for _, b := range edgeInts() {
				if got, want := impl.Binary(op, intOf(a), intOf(b)), intAnswer(op, a, b); !alikeValued(got, want) {
					t.Errorf("op %d of %d and %d is %v, not %v", op, a, b, got, want)
				}
			}
		}
	}
}

func TestDivAndModMakeUpTheInt(t *testing.T) {
	ints := edgeInts()
	for n := int64(-25); n <= 25; n++ {
		ints = append(ints, n, leastInt+25+n, mostInt-25+n)
	}
	for _, a := range ints {
		for _, b := range ints {
			if b == 0 {
				continue
			}
			q, m := impl.Binary(impl.OpIDiv, intOf(a), intOf(b)), impl.Binary(impl.OpMod, intOf(a), intOf(b))
			if q.Code != 0 || m.Code != 0 || q.Value.Kind != impl.KInt || m.Value.Kind != impl.KInt {
				t.Fatalf("%d by %d: %v and %v", a, b, q, m)
			}
			product := impl.Binary(impl.OpMul, intOf(b), q.Value)
			if sum := impl.Binary(impl.OpAdd, product.Value, m.Value); b*q.Value.Num+m.Value.Num != a || !alikeValued(sum, gives(intOf(a))) {
				t.Errorf("%d by %d", a, b)
			}
		}
	}
}

// fltAnswer rounds once what exact numbers give; it is for finite operands, and for a divisor that is not 0.
func fltAnswer(op int, x, y float64) float64 {
	a, b := new(big.Float).SetFloat64(x), new(big.Float).SetFloat64(y)
	n := new(big.Float).SetPrec(5000)
	switch op {
	case impl.OpAdd:
		n.Add(a, b)
	case impl.OpSub:
		n.Sub(a, b)
	case impl.OpMul:
		n.Mul(a, b)
	case impl.OpDiv:
		n.Quo(a, b)
	}
	f, _ := n.Float64()
	return f
}

func floatOf(v impl.Value) float64 {
	if v.Kind == impl.KFlt {
		return v.Flt
	}
	f, _ := new(big.Float).SetInt64(v.Num).Float64()
	return f
}

func finite(f float64) bool { return !math.IsNaN(f) && !math.IsInf(f, 0) }

func TestFloatsAreRoundedOnce(t *testing.T) {
	for _, op := range []int{impl.OpAdd, impl.OpSub, impl.OpMul, impl.OpDiv} {
		for _, a := range goodNumbers() {
			for _, b := range goodNumbers() {
				x, y := floatOf(a), floatOf(b)
				if !finite(x) || !finite(y) || op == impl.OpDiv && y == 0 || op != impl.OpDiv && a.Kind == impl.KInt && b.Kind == impl.KInt {
					continue
				}
				if got, want := impl.Binary(op, a, b), gives(fltOf(fltAnswer(op, x, y))); !alikeValued(got, want) {
					t.Errorf("op %d of %v and %v is %v, not %v", op, a, b, got, want)
				}
			}
		}
	}
}

func TestFloatsFloorAndRest(t *testing.T) {
	for _, a := range goodNumbers() {
		for _, b := range goodNumbers() {
			x, y := floatOf(a), floatOf(b)
			if !finite(x) || !finite(y) || y == 0 || a.Kind == impl.KInt && b.Kind == impl.KInt {
				continue
			}
			floor := math.Floor(fltAnswer(impl.OpDiv, x, y))
			if got := impl.Binary(impl.OpIDiv, a, b); !alikeValued(got, gives(fltOf(floor))) {
				t.Errorf("%v idiv %v is %v, not %v", a, b, got, floor)
			}
			if product := fltAnswer(impl.OpMul, clip(floor), y); finite(floor) && finite(product) {
				if got, want := impl.Binary(impl.OpMod, a, b), fltAnswer(impl.OpSub, x, product); !alikeValued(got, gives(fltOf(want))) {
					t.Errorf("%v mod %v is %v, not %v", a, b, got, want)
				}
			}
		}
	}
}

// clip keeps an infinity away from exact numbers, which have no product of it and 0.
func clip(f float64) float64 {
	if finite(f) {
		return f
	}
	return 0
}

func TestFloatEdges(t *testing.T) {
	for _, c := range []struct {
		op   int
		a, b impl.Value
		want float64
	}{
		{impl.OpAdd, fltOf(inf), fltOf(-inf), nan},
		{impl.OpAdd, fltOf(inf), intOf(leastInt), inf},
		{impl.OpAdd, fltOf(minusZero), fltOf(minusZero), minusZero},
		{impl.OpAdd, fltOf(minusZero), intOf(0), 0},
		{impl.OpAdd, intOf(two53 + 1), fltOf(0), two53},
		{impl.OpAdd, intOf(two53 + 3), fltOf(0), two53 + 4},
		{impl.OpAdd, intOf(mostInt), fltOf(0), two63},
		{impl.OpAdd, fltOf(nan), intOf(1), nan},
		{impl.OpSub, fltOf(inf), fltOf(inf), nan},
		{impl.OpSub, intOf(0), fltOf(0), 0},
		{impl.OpMul, fltOf(inf), intOf(0), nan},
		{impl.OpMul, fltOf(-1), intOf(0), minusZero},
		{impl.OpMul, fltOf(math.MaxFloat64), intOf(2), inf},
		{impl.OpDiv, intOf(1), intOf(0), inf},
		{impl.OpDiv, intOf(-1), intOf(0), -inf},
		{impl.OpDiv, intOf(1), fltOf(minusZero), -inf},
		{impl.OpDiv, intOf(0), intOf(0), nan},
		{impl.OpDiv, intOf(7), intOf(2), 3.5},
		{impl.OpDiv, intOf(6), intOf(2), 3},
		{impl.OpDiv, intOf(leastInt), intOf(-1), two63},
		{impl.OpDiv, fltOf(inf), fltOf(inf), nan},
		{impl.OpDiv, fltOf(5e-324), intOf(2), 0},
		{impl.OpIDiv, fltOf(-7), intOf(2), -4},
		{impl.OpIDiv, intOf(7), fltOf(-2), -4},
		{impl.OpIDiv, fltOf(1), intOf(0), inf},
		{impl.OpIDiv, intOf(-1), fltOf(0), -inf},
		{impl.OpIDiv, fltOf(0), intOf(0), nan},
		{impl.OpIDiv, fltOf(nan), intOf(1), nan},
		{impl.OpIDiv, fltOf(inf), intOf(2), inf},
		{impl.OpIDiv, fltOf(-inf), intOf(2), -inf},
		{impl.OpIDiv, fltOf(minusZero), intOf(2), minusZero},
		{impl.OpIDiv, fltOf(0), intOf(2), 0},
		{impl.OpIDiv, fltOf(-1), fltOf(inf), minusZero},
		{impl.OpIDiv, fltOf(-5e-324), intOf(1), -1},
		{impl.OpIDiv, fltOf(-5e-324), intOf(2), minusZero},
		{impl.OpIDiv, fltOf(math.MaxFloat64), intOf(1), math.MaxFloat64},
		{impl.OpIDiv, fltOf(-0x1p-1022), intOf(1), -1},
		{impl.OpMod, fltOf(7.5), intOf(-2), -0.5},
		{impl.OpMod, fltOf(5.5), fltOf(inf), nan},
		{impl.OpMod, fltOf(1), intOf(0), nan},
		{impl.OpMod, fltOf(inf), intOf(2), nan},
		{impl.OpMod, fltOf(nan), intOf(2), nan},
		{impl.OpMod, fltOf(6), intOf(3), 0},
		{impl.OpMod, fltOf(minusZero), intOf(2), 0},
		{impl.OpMod, fltOf(-5e-324), intOf(1), 1},
		// 10 * 0.1 is rounded to 1 ahead of the subtraction; done as one operation it would leave -0x1p-54.
		{impl.OpMod, intOf(1), fltOf(0.1), 0},
	} {
		if got := impl.Binary(c.op, c.a, c.b); !alikeValued(got, gives(fltOf(c.want))) {
			t.Errorf("op %d of %v and %v is %v, not %v", c.op, c.a, c.b, got, c.want)
		}
	}
}

func TestIntEdges(t *testing.T) {
	for _, c := range []struct {
		op   int
		a, b int64
		want impl.Valued
	}{
		{impl.OpAdd, mostInt, 1, gives(intOf(leastInt))},
		{impl.OpAdd, leastInt, -1, gives(intOf(mostInt))},
		{impl.OpSub, leastInt, 1, gives(intOf(mostInt))},
		{impl.OpSub, mostInt, -1, gives(intOf(leastInt))},
		{impl.OpMul, mostInt, 2, gives(intOf(-2))},
		{impl.OpMul, leastInt, -1, gives(intOf(leastInt))},
		{impl.OpMul, two53 + 1, 3, gives(intOf(3*two53 + 3))},
		{impl.OpIDiv, leastInt, -1, gives(intOf(leastInt))},
		{impl.OpIDiv, leastInt, 1, gives(intOf(leastInt))},
		{impl.OpIDiv, mostInt, leastInt, gives(intOf(-1))},
		{impl.OpIDiv, -1, mostInt, gives(intOf(-1))},
		{impl.OpIDiv, 0, 0, fails(impl.ErrZero)},
		{impl.OpMod, leastInt, -1, gives(intOf(0))},
		{impl.OpMod, -1, mostInt, gives(intOf(mostInt - 1))},
		{impl.OpMod, mostInt, leastInt, gives(intOf(-1))},
		{impl.OpMod, 1, 0, fails(impl.ErrZero)},
		{impl.OpAnd, -1, 6, gives(intOf(6))},
		{impl.OpOr, 5, 10, gives(intOf(15))},
		{impl.OpXor, -1, 1, gives(intOf(-2))},
		{impl.OpShl, 1, 0, gives(intOf(1))},
		{impl.OpShl, 3, 63, gives(intOf(leastInt))},
		{impl.OpShl, -1, 64, gives(intOf(0))},
		{impl.OpShl, -1, mostInt, gives(intOf(0))},
		{impl.OpShl, -1, 1 << 32, gives(intOf(0))},
		{impl.OpShl, 1, -1, fails(impl.ErrRange)},
		{impl.OpShl, 1, leastInt, fails(impl.ErrRange)},
		{impl.OpShr, -1, 0, gives(intOf(-1))},
		{impl.OpShr, -1, 1, gives(intOf(mostInt))},
		{impl.OpShr, -1, 63, gives(intOf(1))},
		{impl.OpShr, -1, 64, gives(intOf(0))},
		{impl.OpShr, -1, mostInt, gives(intOf(0))},
		{impl.OpShr, -1, -1, fails(impl.ErrRange)},
		{impl.OpShr, 0, leastInt, fails(impl.ErrRange)},
	} {
		if got := impl.Binary(c.op, intOf(c.a), intOf(c.b)); !alikeValued(got, c.want) {
			t.Errorf("op %d of %d and %d is %v, not %v", c.op, c.a, c.b, got, c.want)
		}
	}
}
