package tests

import (
	"testing"

	"loop.example/punch/impl"
)

// roomy is the table with room behind its pairs, where a careless append would write.
func roomy(table impl.Table) impl.Table {
	room := make([]impl.Pair, 2*impl.MaxPairs)
	for i := range room {
		room[i] = pairOf(strOf("room"), strOf("room"), -1)
	}
	return impl.Table{Pairs: room[:copy(room, table.Pairs)], Turns: table.Turns}
}

func memoryPuttings() []putting {
	var out []putting
	for _, k := range []impl.Value{intOf(1), intOf(2), intOf(3), fltOf(2), intOf(-1), strOf("new"), nilValue(), fltOf(nan), {Kind: -1}} {
		for _, v := range []impl.Value{intOf(7), strOf("x"), nilValue(), {Kind: -1}} {
			out = append(out, putting{k, v})
		}
	}
	return out
}

func memoryTables() []impl.Table {
	return []impl.Table{{}, tableOf(3), countedTable(1), countedTable(3), countedTable(impl.MaxPairs), countedTable(impl.MaxPairs + 1), {Pairs: countedTable(3).Pairs, Turns: mostTurns}, {Pairs: countedTable(3).Pairs, Turns: 2}}
}

func TestNothingIsWrittenIntoATable(t *testing.T) {
	for _, table := range memoryTables() {
		for _, p := range memoryPuttings() {
			given := roomy(table)
			room := given.Pairs[:cap(given.Pairs)]
			before := append([]impl.Pair(nil), room...)
			impl.Put(given, p.key, p.val)
			impl.Get(given, p.key)
			impl.After(given, 1)
			impl.Length(given)
			impl.TableOk(given)
			for i := range room {
				if !alikePairs(room[i], before[i]) {
					t.Fatalf("Put of %v at %v wrote into pair %d", p.val, p.key, i)
				}
			}
		}
	}
}

func TestPutSharesNoMemory(t *testing.T) {
	spoilt := pairOf(strOf("spoilt"), strOf("spoilt"), 99)
	for _, table := range memoryTables() {
		for _, p := range memoryPuttings() {
			given := roomy(table)
			got := impl.Put(given, p.key, p.val)
			want := copyOf(got)
			room := given.Pairs[:cap(given.Pairs)]
			for i := range room {
				room[i] = spoilt
			}
			if !alikeTables(got, want) {
				t.Fatalf("Put of %v at %v: the answer is a piece of the argument", p.val, p.key)
			}
			given = roomy(table)
			got = impl.Put(given, p.key, p.val)
			whole := got.Pairs[:cap(got.Pairs)]
			for i := range whole {
				whole[i] = spoilt
			}
			if !alikeTables(given, table) {
				t.Fatalf("Put of %v at %v: the argument is a piece of the answer", p.val, p.key)
			}
		}
	}
}

func TestTwoAnswersShareNoMemory(t *testing.T) {
	table := countedTable(3)
	a, b := impl.Put(table, intOf(4), intOf(4)), impl.Put(table, intOf(4), intOf(5))
	a.Pairs[0].Val = strOf("spoilt")
	if !alike(b.Pairs[0].Val, intOf(10)) || !alike(impl.Get(b, intOf(4)), intOf(5)) || !alike(impl.Get(table, intOf(1)), intOf(10)) {
		t.Errorf("%v", b)
	}
}
