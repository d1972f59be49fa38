package tests

import (
	"math"
	"strings"
	"testing"

	"loop.example/punch/impl"
)

func TestJoin(t *testing.T) {
	for _, c := range []struct {
		a, b impl.Value
		want impl.Valued
	}{
		{strOf("ab"), strOf("cd"), gives(strOf("abcd"))},
		{strOf(""), strOf(""), gives(strOf(""))},
		{intOf(1), intOf(2), gives(strOf("12"))},
		{intOf(leastInt), fltOf(minusZero), gives(strOf("-9223372036854775808-0p0"))},
		{fltOf(nan), fltOf(-inf), gives(strOf("nan-inf"))},
		{strOf("\xff\x00"), fltOf(1.5), gives(strOf("\xff\x003p-1"))},
		{longStr(impl.MaxStr), strOf(""), gives(longStr(impl.MaxStr))},
		{strOf(""), longStr(impl.MaxStr), gives(longStr(impl.MaxStr))},
		{longStr(impl.MaxStr - 1), intOf(7), gives(strOf(strings.Repeat("x", impl.MaxStr-1) + "7"))},
		{longStr(impl.MaxStr - 3), fltOf(8), gives(strOf(strings.Repeat("x", impl.MaxStr-3) + "1p3"))},
		{longStr(impl.MaxStr), strOf("x"), fails(impl.ErrLong)},
		{longStr(impl.MaxStr - 1), intOf(10), fails(impl.ErrLong)},
		{fltOf(8), longStr(impl.MaxStr - 2), fails(impl.ErrLong)},
		{longStr(impl.MaxStr), longStr(impl.MaxStr), fails(impl.ErrLong)},
		{longStr(impl.MaxStr), nilValue(), fails(impl.ErrType)},
		{longStr(impl.MaxStr + 1), strOf(""), fails(impl.ErrType)},
	} {
		if got := impl.Binary(impl.OpJoin, c.a, c.b); !alikeValued(got, c.want) {
			t.Errorf("%v joined to %v: %d %v", short(c.a), short(c.b), got.Code, short(got.Value))
		}
	}
}

func TestEqualAndOrderedOperations(t *testing.T) {
	for _, a := range goodValues() {
		for _, b := range goodValues() {
			want := map[int]impl.Valued{impl.OpEq: gives(boolOf(sameOf(a, b))), impl.OpNe: gives(boolOf(!sameOf(a, b)))}
			c := orderOf(a, b)
			for op, holds := range map[int]bool{impl.OpLt: c == -1, impl.OpLe: c == -1 || c == 0, impl.OpGt: c == 1, impl.OpGe: c == 1 || c == 0} {
				want[op] = gives(boolOf(holds))
				if c == 3 {
					want[op] = fails(impl.ErrType)
				}
			}
			for op, w := range want {
				if got := impl.Binary(op, a, b); !alikeValued(got, w) {
					t.Errorf("op %d of %v and %v is %v, not %v", op, short(a), short(b), got, w)
				}
			}
		}
	}
}

// fits tells whether a binary operation below OpEq is for values of these kinds.
func fits(op int, a, b impl.Value) bool {
	switch {
	case op >= impl.OpAdd && op <= impl.OpMod:
		return isNumber(a) && isNumber(b)
	case op >= impl.OpAnd && op <= impl.OpShr:
		return a.Kind == impl.KInt && b.Kind == impl.KInt
	}
	return (isNumber(a) || a.Kind == impl.KStr) && (isNumber(b) || b.Kind == impl.KStr)
}

func TestOperandsOfOtherKinds(t *testing.T) {
	for op := impl.OpAdd; op <= impl.OpJoin; op++ {
		for _, a := range goodValues() {
			for _, b := range goodValues() {
				got := impl.Binary(op, a, b)
				if !fits(op, a, b) && !alikeValued(got, fails(impl.ErrType)) {
					t.Errorf("op %d is not for %v and %v: %v", op, short(a), short(b), got)
				}
				if fits(op, a, b) && got.Code == impl.ErrType {
					t.Errorf("op %d is for %v and %v", op, short(a), short(b))
				}
				if got.Code == 0 && !impl.ValueOk(got.Value) || got.Code != 0 && !alike(got.Value, impl.Value{}) {
					t.Errorf("op %d of %v and %v answers %d, %v", op, short(a), short(b), got.Code, short(got.Value))
				}
			}
		}
	}
}

func TestBinaryOfBadValues(t *testing.T) {
	for op := impl.OpAdd; op <= impl.OpGe; op++ {
		for _, bad := range badValues() {
			for _, other := range append(goodValues(), bad) {
				if got := impl.Binary(op, bad, other); !alikeValued(got, fails(impl.ErrType)) {
					t.Errorf("op %d of %v and %v is %v", op, short(bad), short(other), got)
				}
				if got := impl.Binary(op, other, bad); !alikeValued(got, fails(impl.ErrType)) {
					t.Errorf("op %d of %v and %v is %v", op, short(other), short(bad), got)
				}
			}
		}
	}
}

func TestOperationsThatThereAreNot(t *testing.T) {
	all := append(goodValues(), badValues()...)
	for _, v := range all {
		for _, op := range []int{math.MinInt, -1, 0, impl.OpNeg, impl.OpFlip, impl.OpNot, impl.OpLen, impl.OpLen + 1, 100, math.MaxInt} {
			if got := impl.Binary(op, v, v); !alikeValued(got, fails(impl.ErrType)) {
				t.Errorf("op %d is not binary: %v", op, got)
			}
		}
		for _, op := range []int{math.MinInt, -1, 0, impl.OpAdd, impl.OpSub, impl.OpEq, impl.OpGe, impl.OpLen + 1, 100, math.MaxInt} {
			if got := impl.Unary(op, v); !alikeValued(got, fails(impl.ErrType)) {
				t.Errorf("op %d is not unary: %v", op, got)
			}
		}
	}
}

func TestUnusedSignDoesNotGoIntoAnswers(t *testing.T) {
	a, s := intOf(6), strOf("ab")
	a.Flt, s.Flt = minusZero, minusZero
	if got := impl.Binary(impl.OpAdd, a, a); !alikeValued(got, gives(intOf(12))) {
		t.Errorf("add: %v", got)
	}
	if got := impl.Binary(impl.OpJoin, s, a); !alikeValued(got, gives(strOf("ab6"))) {
		t.Errorf("join: %v", got)
	}
	if got := impl.Unary(impl.OpNeg, a); !alikeValued(got, gives(intOf(-6))) {
		t.Errorf("neg: %v", got)
	}
}
