package tests

import (
	"bytes"
	"math/big"
	"testing"

	"loop.example/punch/impl"
)

func bigOf(v impl.Value) *big.Float {
	if v.Kind == impl.KInt {
		return new(big.Float).SetInt64(v.Num)
	}
	return new(big.Float).SetFloat64(v.Flt)
}

// orderOf tells by exact numbers of any size what Compare has to answer.
func orderOf(a, b impl.Value) int {
	switch {
	case isNumber(a) && isNumber(b):
		if isNaN(a) || isNaN(b) {
			return 2
		}
		return bigOf(a).Cmp(bigOf(b))
	case a.Kind == impl.KStr && b.Kind == impl.KStr:
		return bytes.Compare([]byte(a.Str), []byte(b.Str))
	}
	return 3
}

func sameOf(a, b impl.Value) bool {
	if isNumber(a) && isNumber(b) {
		return orderOf(a, b) == 0
	}
	return a.Kind == b.Kind && a.Num == b.Num && a.Str == b.Str && a.Ref == b.Ref
}

func TestCompareAllPairs(t *testing.T) {
	for _, a := range goodValues() {
		for _, b := range goodValues() {
			if got, want := impl.Compare(a, b), orderOf(a, b); got != want {
				t.Errorf("Compare(%v, %v) is %d, not %d", short(a), short(b), got, want)
			}
		}
	}
}

func TestSameAllPairs(t *testing.T) {
	for _, a := range goodValues() {
		for _, b := range goodValues() {
			if got, want := impl.Same(a, b), sameOf(a, b); got != want {
				t.Errorf("Same(%v, %v) is %v", short(a), short(b), got)
			}
		}
	}
}

func TestCompareAtTheEdges(t *testing.T) {
	for _, c := range []struct {
		a, b impl.Value
		want int
	}{
		{intOf(two53 + 1), fltOf(two53), 1},
		{intOf(two53 + 1), fltOf(two53 + 2), -1},
		{intOf(-two53 - 1), fltOf(-two53), -1},
		{intOf(two53), fltOf(two53), 0},
		{intOf(mostInt), fltOf(two63), -1},
		{fltOf(two63), intOf(mostInt), 1},
		{intOf(mostInt), fltOf(next(two63, 0)), 1},
		{intOf(mostInt - 1023), fltOf(next(two63, 0)), 0},
		{intOf(leastInt), fltOf(-two63), 0},
		{intOf(leastInt), fltOf(next(-two63, -inf)), 1},
		{intOf(leastInt), fltOf(next(-two63, 0)), -1},
		{intOf(leastInt), fltOf(-inf), 1},
		{intOf(mostInt), fltOf(inf), -1},
		{intOf(0), fltOf(minusZero), 0},
		{intOf(0), fltOf(5e-324), -1},
		{intOf(0), fltOf(-5e-324), 1},
		{intOf(-1), fltOf(-0.5), -1},
		{intOf(-1), fltOf(-1.5), 1},
		{fltOf(0), fltOf(minusZero), 0},
		{fltOf(nan), fltOf(nan), 2},
		{intOf(1), fltOf(nan), 2},
		{strOf("1"), fltOf(nan), 3},
		{nilValue(), fltOf(nan), 3},
		{strOf(""), strOf("a"), -1},
		{strOf("ab"), strOf("a"), 1},
		{strOf("a"), strOf("a"), 0},
		{strOf("\xff"), strOf("a"), 1},
		{boolOf(false), boolOf(true), 3},
		{nilValue(), nilValue(), 3},
		{boolOf(true), intOf(1), 3},
		{builtinOf(1), intOf(1), 3},
		{refOf(impl.KTable, 0), refOf(impl.KTable, 0), 3},
	} {
		if got := impl.Compare(c.a, c.b); got != c.want {
			t.Errorf("Compare(%v, %v) is %d, not %d", c.a, c.b, got, c.want)
		}
	}
}

func TestOrderOfBadValues(t *testing.T) {
	for _, bad := range badValues() {
		if impl.Same(bad, bad) || impl.Compare(bad, bad) != 3 {
			t.Errorf("%v and itself", short(bad))
		}
		for _, good := range goodValues() {
			if impl.Same(bad, good) || impl.Same(good, bad) || impl.Compare(bad, good) != 3 || impl.Compare(good, bad) != 3 {
				t.Errorf("%v and %v", short(bad), short(good))
			}
		}
	}
}
