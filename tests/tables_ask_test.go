package tests

import (
	"math"
	"testing"

	"loop.example/punch/impl"
)

func TestTablesThatAreNotValidAnswerNothing(t *testing.T) {
	for _, c := range badTables() {
		for _, k := range []impl.Value{intOf(1), intOf(2), strOf("new")} {
			if got := impl.Get(c.table, k); !alike(got, nilValue()) {
				t.Errorf("%s: Get is %v", c.name, got)
			}
			for _, v := range []impl.Value{intOf(1), nilValue()} {
				if got := impl.Put(c.table, k, v); !alikeTables(got, impl.Table{}) {
					t.Errorf("%s: Put is %v", c.name, got)
				}
			}
		}
		for _, turn := range []int{math.MinInt, -1, 0, 1, 2, math.MaxInt} {
			if got := impl.After(c.table, turn); !alikeFound(got, impl.Found{}) {
				t.Errorf("%s: After %d is %v", c.name, turn, got)
			}
		}
		if got := impl.Length(c.table); got != 0 {
			t.Errorf("%s: Length is %d", c.name, got)
		}
	}
}

func TestGetOfEveryGoodValue(t *testing.T) {
	for _, v := range goodValues() {
		if v.Kind == impl.KNil {
			continue
		}
		table := tableOf(2, pairOf(strOf("other"), intOf(0), 1), pairOf(intOf(4), v, 2))
		for _, k := range []impl.Value{intOf(4), fltOf(4)} {
			if got := impl.Get(table, k); !alike(got, v) {
				t.Errorf("Get at %v is %v, not %v", k, short(got), short(v))
			}
		}
		for _, k := range []impl.Value{intOf(5), fltOf(4.5), strOf("4"), boolOf(true), refOf(impl.KTable, 4), builtinOf(4)} {
			if got := impl.Get(table, k); !alike(got, nilValue()) {
				t.Errorf("Get at %v is %v", k, short(got))
			}
		}
	}
	if got := impl.Get(impl.Table{}, intOf(1)); !alike(got, nilValue()) {
		t.Errorf("Get of an empty table is %v", got)
	}
}

func TestAfter(t *testing.T) {
	a, b, c := pairOf(strOf("a"), fltOf(nan), 2), pairOf(intOf(1), strOf("b"), 3), pairOf(fltOf(0.5), strOf("c"), mostTurns)
	table := tableOf(mostTurns, a, b, c)
	for _, x := range []struct {
		turn int
		want impl.Found
	}{
		{math.MinInt, impl.Found{Found: true, Pair: a}}, {-1, impl.Found{Found: true, Pair: a}}, {0, impl.Found{Found: true, Pair: a}}, {1, impl.Found{Found: true, Pair: a}}, {2, impl.Found{Found: true, Pair: b}},
		{3, impl.Found{Found: true, Pair: c}}, {4, impl.Found{Found: true, Pair: c}}, {mostTurns - 1, impl.Found{Found: true, Pair: c}}, {mostTurns, impl.Found{}}, {mostTurns + 1, impl.Found{}}, {math.MaxInt - 1, impl.Found{}}, {math.MaxInt, impl.Found{}},
	} {
		if got := impl.After(table, x.turn); !alikeFound(got, x.want) {
			t.Errorf("After %d is %v, not %v", x.turn, got, x.want)
		}
	}
	for _, turn := range []int{math.MinInt, -1, 0, 1, math.MaxInt} {
		if got := impl.After(tableOf(5), turn); !alikeFound(got, impl.Found{}) {
			t.Errorf("After %d of an empty table is %v", turn, got)
		}
	}
}

// Who asks After again and again, from 0 on, meets every pair once, in the order of their coming.
func TestAfterGoesThroughATable(t *testing.T) {
	table := countedTable(impl.MaxPairs)
	for n := int64(1); n <= impl.MaxPairs; n += 3 {
		table = impl.Put(table, intOf(n), nilValue())
	}
	turn := 0
	for _, want := range table.Pairs {
		got := impl.After(table, turn)
		if !got.Found || !alikePairs(got.Pair, want) {
			t.Fatalf("After %d is %v", turn, got)
		}
		turn = got.Pair.Turn
	}
	if got := impl.After(table, turn); !alikeFound(got, impl.Found{}) {
		t.Errorf("behind the last: %v", got)
	}
}

func TestLength(t *testing.T) {
	for _, c := range []struct {
		name string
		keys []impl.Value
		want int
	}{
		{"nothing", nil, 0}, {"one", []impl.Value{intOf(1)}, 1}, {"in any order", []impl.Value{intOf(3), intOf(1), intOf(2)}, 3}, {"a gap", []impl.Value{intOf(1), intOf(2), intOf(4), intOf(5)}, 2},
		{"without 1", []impl.Value{intOf(2), intOf(3)}, 0}, {"0 and below", []impl.Value{intOf(0), intOf(-1)}, 0}, {"from 0 on", []impl.Value{intOf(0), intOf(1)}, 1},
		{"whole floats", []impl.Value{fltOf(1), fltOf(2)}, 2}, {"others than ints", []impl.Value{strOf("1"), fltOf(1.5), boolOf(true), refOf(impl.KTable, 1), refOf(impl.KFn, 2), builtinOf(1)}, 0},
		{"ints among others", []impl.Value{strOf("1"), intOf(2), boolOf(true), intOf(1), strOf("3"), refOf(impl.KTask, 3), builtinOf(3), fltOf(2.5)}, 2},
		{"edges of ints", []impl.Value{intOf(leastInt), intOf(mostInt), intOf(1)}, 1},
	} {
		table := impl.Table{}
		for _, k := range c.keys {
			table = impl.Put(table, k, boolOf(false))
		}
		if got := impl.Length(table); got != c.want || len(table.Pairs) != len(c.keys) {
			t.Errorf("%s: %d, not %d", c.name, got, c.want)
		}
	}
}

func TestLengthOfAFullTable(t *testing.T) {
	full := countedTable(impl.MaxPairs)
	if got := impl.Length(full); got != impl.MaxPairs {
		t.Errorf("%d", got)
	}
	for _, n := range []int{1, 2, 250, impl.MaxPairs} {
		if got := impl.Length(impl.Put(full, intOf(int64(n)), nilValue())); got != n-1 {
			t.Errorf("without %d: %d", n, got)
		}
	}
}
