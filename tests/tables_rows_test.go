package tests

import (
	"math/rand"
	"testing"

	"loop.example/punch/impl"
)

type putting struct{ key, val impl.Value }

// allRows goes through every row of at most deep of the puttings, each behind those before it.
func allRows(t *testing.T, said []putting, table impl.Table, list plain, puttings []putting, keys []impl.Value, deep int) {
	holdAgainst(t, said, table, list, keys)
	if deep == 0 {
		return
	}
	for _, p := range puttings {
		behind := list
		behind.put(p.key, p.val)
		before := copyOf(table)
		allRows(t, append(said[:len(said):len(said)], p), impl.Put(table, p.key, p.val), behind, puttings, keys, deep-1)
		if !alikeTables(before, table) {
			t.Fatalf("%v: Put wrote into its table", said)
		}
	}
}

func TestAllShortRowsOfPuts(t *testing.T) {
	keys := []impl.Value{intOf(1), fltOf(2), intOf(2), strOf("1")}
	var puttings []putting
	for _, k := range keys {
		puttings = append(puttings, putting{k, nilValue()}, putting{k, intOf(7)}, putting{k, strOf("x")})
	}
	allRows(t, nil, impl.Table{}, plain{}, puttings, append(keys, intOf(3), fltOf(1), nilValue()), 4)
}

func TestLongRowsOfPuts(t *testing.T) {
	all := append(goodValues(), fltOf(nan), fltOf(minusZero))
	for seed := int64(1); seed <= 40; seed++ {
		chance := rand.New(rand.NewSource(seed))
		some := make([]impl.Value, 0, 12)
		for len(some) < cap(some) {
			if k := all[chance.Intn(len(all))]; k.Kind != impl.KNil && !isNaN(k) {
				some = append(some, k)
			}
		}
		some = append(some, intOf(1), fltOf(2), intOf(2), intOf(3), fltOf(3), fltOf(4))
		table, list := impl.Table{}, plain{}
		for step := 0; step < 120; step++ {
			k, v := some[chance.Intn(len(some))], all[chance.Intn(len(all))]
			if chance.Intn(3) == 0 {
				v = nilValue()
			}
			table = impl.Put(table, k, v)
			list.put(k, v)
			holdAgainst(t, []any{seed, step, short(k), short(v)}, table, list, append(some, all[chance.Intn(len(all))]))
		}
	}
}

// A long life: the same few keys come and go, so that Turns grows far above the number of pairs.
func TestTurnsGoOnOverALife(t *testing.T) {
	table, list := impl.Table{}, plain{}
	for n := int64(0); n < 600; n++ {
		k := intOf(n % 3)
		for _, v := range []impl.Value{intOf(n), nilValue(), intOf(-n)} {
			table = impl.Put(table, k, v)
			list.put(k, v)
		}
		holdAgainst(t, n, table, list, []impl.Value{intOf(0), intOf(1), intOf(2), intOf(3)})
	}
	// Each key comes for the first time once, and again in each of the 600 rounds.
	if table.Turns != 603 || len(table.Pairs) != 3 {
		t.Errorf("%d turns, %d pairs", table.Turns, len(table.Pairs))
	}
}

func TestAKeyTakenOutAndPutInAgainComesLast(t *testing.T) {
	table := countedTable(3)
	table = impl.Put(table, intOf(1), nilValue())
	if want := tableOf(3, pairOf(intOf(2), intOf(20), 2), pairOf(intOf(3), intOf(30), 3)); !alikeTables(table, want) {
		t.Errorf("taken out: %v", table)
	}
	table = impl.Put(table, fltOf(1), strOf("again"))
	if want := tableOf(4, pairOf(intOf(2), intOf(20), 2), pairOf(intOf(3), intOf(30), 3), pairOf(intOf(1), strOf("again"), 4)); !alikeTables(table, want) {
		t.Errorf("put in again: %v", table)
	}
	table = impl.Put(table, intOf(1), nilValue())
	table = impl.Put(table, intOf(1), intOf(9))
	if want := pairOf(intOf(1), intOf(9), 5); table.Turns != 5 || !alikePairs(table.Pairs[2], want) {
		t.Errorf("the last one taken out and put in again: %v", table)
	}
}
