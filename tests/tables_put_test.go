package tests

import (
	"testing"

	"loop.example/punch/impl"
)

func putGives(t *testing.T, said string, table impl.Table, k, v impl.Value, want impl.Table) {
	t.Helper()
	if got := impl.Put(table, k, v); !alikeTables(got, want) {
		t.Errorf("%s: %d pairs, %d turns, not %d and %d (or others)", said, len(got.Pairs), got.Turns, len(want.Pairs), want.Turns)
	}
}

func TestPutIntoAFullTable(t *testing.T) {
	full, last := countedTable(impl.MaxPairs), int64(impl.MaxPairs)
	putGives(t, "the pair that makes it full", countedTable(impl.MaxPairs-1), intOf(last), intOf(10*last), full)
	putGives(t, "a new key", full, intOf(last+1), intOf(1), full)
	putGives(t, "a new key that is a string", full, strOf("1"), intOf(1), full)
	putGives(t, "a taking out of a key that it has not", full, intOf(0), nilValue(), full)
	for _, place := range []int{0, 250, impl.MaxPairs - 1} {
		key := full.Pairs[place].Key
		replaced := copyOf(full)
		replaced.Pairs[place].Val = strOf("new")
		putGives(t, "a key that it has", full, key, strOf("new"), replaced)
		putGives(t, "a key that it has, as a float", full, fltOf(float64(key.Num)), strOf("new"), replaced)
		without := impl.Table{Turns: full.Turns}
		without.Pairs = append(append(without.Pairs, full.Pairs[:place]...), full.Pairs[place+1:]...)
		putGives(t, "a taking out", full, key, nilValue(), without)
		again := copyOf(without)
		again.Turns++
		again.Pairs = append(again.Pairs, pairOf(strOf("k"), intOf(5), again.Turns))
		putGives(t, "a key behind a taking out", without, strOf("k"), intOf(5), again)
	}
}

func TestPutAtTheLastTurn(t *testing.T) {
	a, b := pairOf(intOf(1), strOf("a"), 7), pairOf(intOf(2), strOf("b"), mostTurns-1)
	c := pairOf(intOf(3), strOf("c"), mostTurns)
	putGives(t, "the last turn", tableOf(mostTurns-1, a, b), intOf(3), strOf("c"), tableOf(mostTurns, a, b, c))
	putGives(t, "no turn left", tableOf(mostTurns, a, b), intOf(3), strOf("c"), tableOf(mostTurns, a, b))
	putGives(t, "no turn left in an empty table", tableOf(mostTurns), intOf(3), strOf("c"), tableOf(mostTurns))
	putGives(t, "no turn left, a key that it has", tableOf(mostTurns, a, b), intOf(2), strOf("new"), tableOf(mostTurns, a, pairOf(intOf(2), strOf("new"), mostTurns-1)))
	putGives(t, "no turn left, a taking out", tableOf(mostTurns, a, b), intOf(1), nilValue(), tableOf(mostTurns, b))
	putGives(t, "no turn left, a key taken out does not come again", tableOf(mostTurns, b), intOf(1), strOf("a"), tableOf(mostTurns, b))
	putGives(t, "Turns above the last Turn", tableOf(41, a), intOf(2), strOf("b"), tableOf(42, a, pairOf(intOf(2), strOf("b"), 42)))
	putGives(t, "Turns at 0", tableOf(0), intOf(2), strOf("b"), tableOf(1, pairOf(intOf(2), strOf("b"), 1)))
	putGives(t, "a taking out of the only pair", tableOf(41, a), intOf(1), nilValue(), tableOf(41))
	putGives(t, "a taking out of an empty table", tableOf(41), intOf(1), nilValue(), tableOf(41))
}

func TestPutOfWholeFloats(t *testing.T) {
	for _, c := range []struct {
		f   float64
		key impl.Value
	}{
		{0, intOf(0)}, {minusZero, intOf(0)}, {1, intOf(1)}, {-1, intOf(-1)}, {two53 - 1, intOf(two53 - 1)}, {two53, intOf(two53)}, {two53 + 2, intOf(two53 + 2)}, {-two53, intOf(-two53)}, {-two53 - 2, intOf(-two53 - 2)},
		{-two63, intOf(leastInt)}, {next(-two63, 0), intOf(leastInt + 1024)}, {next(two63, 0), intOf(mostInt - 1023)},
		{two63, fltOf(two63)}, {next(two63, inf), fltOf(next(two63, inf))}, {next(-two63, -inf), fltOf(next(-two63, -inf))}, {inf, fltOf(inf)}, {-inf, fltOf(-inf)}, {0.5, fltOf(0.5)}, {-5e-324, fltOf(-5e-324)}, {two53/2 - 0.5, fltOf(two53/2 - 0.5)},
	} {
		putGives(t, "a float", impl.Table{}, fltOf(c.f), strOf("v"), tableOf(1, pairOf(c.key, strOf("v"), 1)))
		has := tableOf(1, pairOf(c.key, strOf("old"), 1))
		putGives(t, "a float, the key is there", has, fltOf(c.f), strOf("new"), tableOf(1, pairOf(c.key, strOf("new"), 1)))
		putGives(t, "a float, taken out", has, fltOf(c.f), nilValue(), tableOf(1))
		if got := impl.Get(has, fltOf(c.f)); !alike(got, strOf("old")) {
			t.Errorf("Get at %v is %v", c.f, got)
		}
	}
}

// Ints next to 2^53 and 2^63 that no float is must not be taken for the float next to them.
func TestIntsThatNoFloatIs(t *testing.T) {
	for _, n := range []int64{two53 + 1, -two53 - 1, mostInt, mostInt - 1, leastInt + 1, mostInt - 1022} {
		table := impl.Put(impl.Table{}, intOf(n), strOf("v"))
		if got := impl.Get(table, fltOf(float64(n))); !alike(got, nilValue()) {
			t.Errorf("%d is found at the float next to it", n)
		}
		if both := impl.Put(table, fltOf(float64(n)), strOf("w")); len(both.Pairs) != 2 || !alike(impl.Get(both, intOf(n)), strOf("v")) {
			t.Errorf("%d and the float next to it: %v", n, both)
		}
	}
}

func TestEveryGoodKeyIsAKeyOfItsOwn(t *testing.T) {
	table := impl.Table{}
	for i, k := range goodKeys() {
		table = impl.Put(table, k, intOf(int64(i)))
	}
	for i, k := range goodKeys() {
		if got := impl.Get(table, k); !alike(got, intOf(int64(i))) || table.Turns != len(goodKeys()) {
			t.Errorf("at %v is %v", short(k), got)
		}
	}
	if !impl.TableOk(table) {
		t.Error("not valid")
	}
}

// A zero with a sign in a field that is not used stays with the key and the value that brought it; it makes no other key.
func TestPutKeepsTheSignOfAnUnusedZero(t *testing.T) {
	key, val := impl.Value{Kind: impl.KStr, Str: "k", Flt: minusZero}, impl.Value{Kind: impl.KInt, Num: 4, Flt: minusZero}
	table := impl.Put(impl.Table{}, key, val)
	if want := tableOf(1, pairOf(key, val, 1)); !alikeTables(table, want) {
		t.Errorf("%v", table)
	}
	table = impl.Put(table, strOf("k"), intOf(5))
	if want := tableOf(1, pairOf(key, intOf(5), 1)); !alikeTables(table, want) {
		t.Errorf("another value: %v", table)
	}
	if got := impl.Put(table, strOf("k"), impl.Value{Flt: minusZero}); !alikeTables(got, tableOf(1)) {
		t.Errorf("a nil with -0.0 takes out: %v", got)
	}
	if got := impl.Put(table, impl.Value{Flt: minusZero}, intOf(1)); !alikeTables(got, impl.Table{}) {
		t.Errorf("a nil with -0.0 is no key: %v", got)
	}
}

func TestPutOfWhatIsWrong(t *testing.T) {
	table := countedTable(3)
	for _, k := range append(badValues(), nilValue(), fltOf(nan), fltOf(-nan)) {
		putGives(t, "a key that is none", table, k, intOf(1), impl.Table{})
		putGives(t, "a taking out of a key that is none", table, k, nilValue(), impl.Table{})
		if got := impl.Get(table, k); !alike(got, nilValue()) {
			t.Errorf("Get at %v is %v", short(k), got)
		}
	}
	for _, v := range badValues() {
		putGives(t, "a bad value", table, intOf(1), v, impl.Table{})
		putGives(t, "a bad value at a new key", table, intOf(9), v, impl.Table{})
		putGives(t, "a bad value into a full table", countedTable(impl.MaxPairs), intOf(-1), v, impl.Table{})
	}
	putGives(t, "a NaN as a value", impl.Table{}, intOf(1), fltOf(nan), tableOf(1, pairOf(intOf(1), fltOf(nan), 1)))
}
