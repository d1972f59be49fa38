package tests

import (
	"testing"

	"loop.example/punch/impl"
)

func TestConstantsStayAsTheyWere(t *testing.T) {
	for i, row := range [][]int{
		{impl.KNil, impl.KBool, impl.KInt, impl.KFlt, impl.KStr, impl.KTable, impl.KFn, impl.KTask, impl.KBuiltin},
		{0, impl.OpAdd, impl.OpSub, impl.OpMul, impl.OpDiv, impl.OpIDiv, impl.OpMod, impl.OpAnd, impl.OpOr, impl.OpXor, impl.OpShl, impl.OpShr, impl.OpJoin,
			impl.OpEq, impl.OpNe, impl.OpLt, impl.OpLe, impl.OpGt, impl.OpGe, impl.OpNeg, impl.OpFlip, impl.OpNot, impl.OpLen},
		{0, impl.ErrType, impl.ErrZero, impl.ErrRange, impl.ErrLong, impl.ErrKey, impl.ErrCall, impl.ErrIndex, impl.ErrDepth, impl.ErrCells, impl.ErrTask,
			impl.ErrLoop, impl.ErrArgs, impl.ErrTicks, impl.ErrStep, impl.ErrUnit},
	} {
		for want, got := range row {
			if got != want {
				t.Errorf("row %d: constant %d is %d", i, want, got)
			}
		}
	}
	if impl.MaxStr != 4000 || impl.Builtins != 15 {
		t.Error("MaxStr or Builtins")
	}
}

func TestGoodValuesAreValid(t *testing.T) {
	for _, v := range goodValues() {
		if !impl.ValueOk(v) {
			t.Errorf("%v is valid", short(v))
		}
	}
}

func TestBadValuesAreNotValid(t *testing.T) {
	for _, v := range badValues() {
		if impl.ValueOk(v) {
			t.Errorf("%v is not valid", short(v))
		}
	}
}

func TestUnusedFloatFieldMayBeAZeroOfEitherSign(t *testing.T) {
	for _, v := range goodValues() {
		if v.Kind == impl.KFlt {
			continue
		}
		signed := v
		signed.Flt = minusZero
		if !impl.ValueOk(signed) {
			t.Errorf("%v with -0.0 is valid", short(v))
		}
		if impl.Truth(signed) != impl.Truth(v) || impl.Text(signed) != impl.Text(v) || !impl.Same(signed, v) || !impl.Same(v, signed) {
			t.Errorf("%v with -0.0 is another value", short(v))
		}
	}
}

func TestTruth(t *testing.T) {
	for _, v := range goodValues() {
		want := v.Kind != impl.KNil && !(v.Kind == impl.KBool && v.Num == 0)
		if impl.Truth(v) != want {
			t.Errorf("Truth of %v is %v", short(v), want)
		}
	}
	for _, v := range badValues() {
		if impl.Truth(v) {
			t.Errorf("Truth of %v, which is not valid, is false", short(v))
		}
	}
}
