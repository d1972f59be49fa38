package tests

import (
	"testing"

	"loop.example/punch/impl"
)

func TestMostPairsStaysAsItWas(t *testing.T) {
	if impl.MaxPairs != 500 {
		t.Error(impl.MaxPairs)
	}
}

func TestTablesThatAreValid(t *testing.T) {
	one, two, val := intOf(1), intOf(2), strOf("v")
	full := countedTable(impl.MaxPairs)
	for _, c := range []struct {
		name  string
		table impl.Table
	}{
		{"the zero value", impl.Table{}}, {"an empty list", impl.Table{Pairs: []impl.Pair{}}}, {"all taken out", tableOf(7)}, {"Turns at the greatest", tableOf(mostTurns)},
		{"the first Turn 1", tableOf(1, pairOf(one, val, 1))}, {"the last Turn at Turns", tableOf(8, pairOf(one, val, 3), pairOf(two, val, 8))}, {"the last Turn below Turns", tableOf(9, pairOf(one, val, 3), pairOf(two, val, 8))},
		{"the last Turn at the greatest", tableOf(mostTurns, pairOf(one, val, 1), pairOf(two, val, mostTurns))}, {"keys that descend", tableOf(2, pairOf(two, val, 1), pairOf(one, val, 2))},
		{"a full table", full}, {"one below full", countedTable(impl.MaxPairs - 1)}, {"equal values", tableOf(2, pairOf(one, val, 1), pairOf(two, val, 2))},
		{"false as a value", tableOf(1, pairOf(one, boolOf(false), 1))}, {"a NaN as a value", tableOf(1, pairOf(one, fltOf(nan), 1))}, {"a whole float as a value", tableOf(1, pairOf(one, fltOf(1), 1))},
	} {
		if !impl.TableOk(c.table) {
			t.Errorf("%s: not valid", c.name)
		}
	}
}

func TestTablesThatAreNotValid(t *testing.T) {
	for _, c := range badTables() {
		if impl.TableOk(c.table) {
			t.Errorf("%s: %v is valid", c.name, c.table.Turns)
		}
	}
}

func TestEveryGoodKeyAndValueCanStandInATable(t *testing.T) {
	all := impl.Table{}
	for i, k := range goodKeys() {
		all.Pairs = append(all.Pairs, pairOf(k, k, i+1))
		all.Turns++
	}
	if len(all.Pairs) < 60 || !impl.TableOk(all) {
		t.Errorf("%d keys", len(all.Pairs))
	}
	for _, v := range goodValues() {
		if v.Kind != impl.KNil && !impl.TableOk(tableOf(1, pairOf(intOf(1), v, 1))) {
			t.Errorf("%v as a value", short(v))
		}
	}
}

func TestUnusedZeroWithASignInATable(t *testing.T) {
	for _, k := range goodKeys() {
		if k.Kind == impl.KFlt {
			continue
		}
		k.Flt = minusZero
		signed := tableOf(1, pairOf(k, k, 1))
		if !impl.TableOk(signed) || !alike(impl.Get(signed, k), k) {
			t.Errorf("%v with -0.0", short(k))
		}
	}
	val := impl.Value{Kind: impl.KNil, Flt: minusZero}
	if impl.TableOk(tableOf(1, pairOf(intOf(1), val, 1))) {
		t.Error("a nil with -0.0 is a nil")
	}
}

// Two keys are the same key just when they are Same, over all pairs of good keys.
func TestTwoKeysOfATable(t *testing.T) {
	for _, a := range goodKeys() {
		for _, b := range goodKeys() {
			two := tableOf(2, pairOf(a, strOf("a"), 1), pairOf(b, strOf("b"), 2))
			if got := impl.TableOk(two); got == sameOf(a, b) {
				t.Errorf("%v and %v: %v", short(a), short(b), got)
			}
		}
	}
}
