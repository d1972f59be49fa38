package tests

import (
	"math"
	"testing"

	"loop.example/punch/impl"
)

func unaryAnswer(op int, v impl.Value) impl.Valued {
	switch {
	case op == impl.OpNeg && v.Kind == impl.KInt:
		return gives(intOf(0 - v.Num))
	case op == impl.OpNeg && v.Kind == impl.KFlt:
		return gives(fltOf(math.Float64frombits(math.Float64bits(v.Flt) ^ 1<<63)))
	case op == impl.OpFlip && v.Kind == impl.KInt:
		return gives(intOf(-1 - v.Num))
	case op == impl.OpNot:
		return gives(boolOf(v.Kind == impl.KNil || v.Kind == impl.KBool && v.Num == 0))
	case op == impl.OpLen && v.Kind == impl.KStr:
		return gives(intOf(int64(len(v.Str))))
	}
	return fails(impl.ErrType)
}

func TestUnaryOfGoodValues(t *testing.T) {
	for op := impl.OpNeg; op <= impl.OpLen; op++ {
		for _, v := range goodValues() {
			if got, want := impl.Unary(op, v), unaryAnswer(op, v); !alikeValued(got, want) {
				t.Errorf("op %d of %v is %v, not %v", op, short(v), got, want)
			}
		}
	}
}

func TestUnaryAtTheEdges(t *testing.T) {
	for _, c := range []struct {
		op   int
		v    impl.Value
		want impl.Valued
	}{
		{impl.OpNeg, intOf(leastInt), gives(intOf(leastInt))},
		{impl.OpNeg, intOf(mostInt), gives(intOf(leastInt + 1))},
		{impl.OpNeg, intOf(0), gives(intOf(0))},
		{impl.OpNeg, fltOf(0), gives(fltOf(minusZero))},
		{impl.OpNeg, fltOf(minusZero), gives(fltOf(0))},
		{impl.OpNeg, fltOf(inf), gives(fltOf(-inf))},
		{impl.OpNeg, fltOf(nan), gives(fltOf(nan))},
		{impl.OpNeg, strOf("1"), fails(impl.ErrType)},
		{impl.OpFlip, intOf(leastInt), gives(intOf(mostInt))},
		{impl.OpFlip, intOf(0), gives(intOf(-1))},
		{impl.OpFlip, fltOf(0), fails(impl.ErrType)},
		{impl.OpNot, nilValue(), gives(boolOf(true))},
		{impl.OpNot, boolOf(false), gives(boolOf(true))},
		{impl.OpNot, intOf(0), gives(boolOf(false))},
		{impl.OpNot, strOf(""), gives(boolOf(false))},
		{impl.OpLen, strOf(""), gives(intOf(0))},
		{impl.OpLen, strOf("\xc3\xa9"), gives(intOf(2))},
		{impl.OpLen, longStr(impl.MaxStr), gives(intOf(impl.MaxStr))},
		{impl.OpLen, refOf(impl.KTable, 0), fails(impl.ErrType)},
		{impl.OpLen, intOf(5), fails(impl.ErrType)},
	} {
		if got := impl.Unary(c.op, c.v); !alikeValued(got, c.want) {
			t.Errorf("op %d of %v is %v, not %v", c.op, short(c.v), got, c.want)
		}
	}
}

func TestUnaryOfBadValues(t *testing.T) {
	for op := impl.OpNeg; op <= impl.OpLen; op++ {
		for _, v := range badValues() {
			if got := impl.Unary(op, v); !alikeValued(got, fails(impl.ErrType)) {
				t.Errorf("op %d of %v is %v", op, short(v), got)
			}
		}
	}
}
