package tests

import (
	"math"
	"testing"

	"loop.example/punch/impl"
)

func TestKeyOfFloats(t *testing.T) {
	for _, c := range []struct {
		f    float64
		want impl.Valued
	}{
		{0, gives(intOf(0))}, {minusZero, gives(intOf(0))}, {3, gives(intOf(3))}, {-3, gives(intOf(-3))}, {two53, gives(intOf(two53))}, {two53 + 2, gives(intOf(two53 + 2))}, {-two53 - 2, gives(intOf(-two53 - 2))},
		{next(two63, 0), gives(intOf(mostInt - 1023))}, {next(-two63, 0), gives(intOf(leastInt + 1024))}, {-two63, gives(intOf(leastInt))},
		{two63, gives(fltOf(two63))}, {next(two63, inf), gives(fltOf(next(two63, inf)))}, {next(-two63, -inf), gives(fltOf(next(-two63, -inf)))},
		{0.5, gives(fltOf(0.5))}, {-0.5, gives(fltOf(-0.5))}, {next(1, 0), gives(fltOf(next(1, 0)))}, {next(two53/2, 0), gives(fltOf(next(two53/2, 0)))}, {5e-324, gives(fltOf(5e-324))}, {-5e-324, gives(fltOf(-5e-324))},
		{next(0x1p-1022, 0), gives(fltOf(next(0x1p-1022, 0)))}, {math.MaxFloat64, gives(fltOf(math.MaxFloat64))}, {-math.MaxFloat64, gives(fltOf(-math.MaxFloat64))}, {inf, gives(fltOf(inf))}, {-inf, gives(fltOf(-inf))},
		{nan, fails(impl.ErrKey)}, {math.Float64frombits(0xfff0000000000001), fails(impl.ErrKey)},
	} {
		if got := impl.Key(fltOf(c.f)); !alikeValued(got, c.want) {
			t.Errorf("Key of %v is %v, not %v", c.f, got, c.want)
		}
	}
}

func TestKeyOfOtherKinds(t *testing.T) {
	for _, v := range goodValues() {
		got := impl.Key(v)
		switch v.Kind {
		case impl.KFlt:
			if !isNaN(v) && (got.Code != 0 || !impl.Same(got.Value, v)) {
				t.Errorf("Key of %v is %v", v, got)
			}
		case impl.KNil:
			if !alikeValued(got, fails(impl.ErrKey)) {
				t.Errorf("Key of nil is %v", got)
			}
		default:
			if !alikeValued(got, gives(v)) {
				t.Errorf("Key of %v is %v", short(v), got)
			}
		}
	}
	for _, v := range badValues() {
		if got := impl.Key(v); !alikeValued(got, fails(impl.ErrType)) {
			t.Errorf("Key of %v is %v", short(v), got)
		}
	}
}

func TestKeyKeepsTheSignOfAnUnusedZero(t *testing.T) {
	for _, v := range goodValues() {
		if v.Kind == impl.KFlt || v.Kind == impl.KNil {
			continue
		}
		v.Flt = minusZero
		if got := impl.Key(v); !alikeValued(got, gives(v)) {
			t.Errorf("Key of %v with -0.0 is not itself", short(v))
		}
	}
}

func TestKeyOfAKeyIsTheKey(t *testing.T) {
	for _, v := range goodValues() {
		once := impl.Key(v)
		if once.Code == 0 && !alikeValued(impl.Key(once.Value), once) {
			t.Errorf("Key of the Key of %v", short(v))
		}
	}
}
