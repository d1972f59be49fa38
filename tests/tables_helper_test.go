package tests

import (
	"math"
	"slices"
	"testing"

	"loop.example/punch/impl"
)

const mostTurns = 1000000000000

func pairOf(key, val impl.Value, turn int) impl.Pair {
	return impl.Pair{Key: key, Val: val, Turn: turn}
}

func tableOf(turns int, pairs ...impl.Pair) impl.Table {
	return impl.Table{Pairs: pairs, Turns: turns}
}

// countedTable has the ints 1 .. n as keys, come at turns 1 .. n, with values ten times as great.
func countedTable(n int) impl.Table {
	out := impl.Table{Turns: n}
	for i := 1; i <= n; i++ {
		out.Pairs = append(out.Pairs, pairOf(intOf(int64(i)), intOf(int64(10*i)), i))
	}
	return out
}

func copyOf(t impl.Table) impl.Table {
	return impl.Table{Pairs: slices.Clone(t.Pairs), Turns: t.Turns}
}

func alikePairs(a, b impl.Pair) bool {
	return alike(a.Key, b.Key) && alike(a.Val, b.Val) && a.Turn == b.Turn
}

func alikeTables(a, b impl.Table) bool {
	return a.Turns == b.Turns && slices.EqualFunc(a.Pairs, b.Pairs, alikePairs)
}

func alikeFound(a, b impl.Found) bool { return a.Found == b.Found && alikePairs(a.Pair, b.Pair) }

// plainKey is what a good value is as a key, worked out without the program; false for nil and NaN.
func plainKey(k impl.Value) (impl.Value, bool) {
	switch {
	case k.Kind == impl.KNil || isNaN(k):
		return impl.Value{}, false
	case k.Kind == impl.KFlt && k.Flt >= -two63 && k.Flt < two63 && bigOf(k).IsInt():
		n, _ := bigOf(k).Int64()
		return intOf(n), true
	}
	return k, true
}

// plain is a table as the document tells it: a list that is gone through from its head.
type plain struct {
	pairs []impl.Pair
	turns int
}

func (p *plain) place(k impl.Value) int {
	key, ok := plainKey(k)
	if !ok {
		return -1
	}
	return slices.IndexFunc(p.pairs, func(x impl.Pair) bool { return sameOf(x.Key, key) })
}

func (p *plain) put(k, v impl.Value) {
	key, ok := plainKey(k)
	if !ok {
		*p = plain{}
		return
	}
	at := p.place(k)
	switch {
	case v.Kind == impl.KNil && at < 0:
	case v.Kind == impl.KNil:
		p.pairs = append(slices.Clone(p.pairs[:at]), p.pairs[at+1:]...)
	case at >= 0:
		p.pairs = slices.Clone(p.pairs)
		p.pairs[at].Val = v
	case len(p.pairs) < 500 && p.turns < mostTurns:
		p.turns++
		p.pairs = append(slices.Clone(p.pairs), pairOf(key, v, p.turns))
	}
}

func (p *plain) get(k impl.Value) impl.Value {
	if at := p.place(k); at >= 0 {
		return p.pairs[at].Val
	}
	return impl.Value{}
}

func (p *plain) after(turn int) impl.Found {
	for _, x := range p.pairs {
		if x.Turn > turn {
			return impl.Found{Found: true, Pair: x}
		}
	}
	return impl.Found{}
}

func (p *plain) length() int {
	n := 0
	for p.place(intOf(int64(n+1))) >= 0 {
		n++
	}
	return n
}

func shortPairs(pairs []impl.Pair) []impl.Pair {
	var out []impl.Pair
	for _, p := range pairs[:min(len(pairs), 20)] {
		out = append(out, pairOf(short(p.Key), short(p.Val), p.Turn))
	}
	return out
}

// holdAgainst asks a table all that it can be asked, and tells where it is not the plain list.
func holdAgainst(t *testing.T, said any, got impl.Table, want plain, keys []impl.Value) {
	t.Helper()
	if !alikeTables(got, impl.Table{Pairs: want.pairs, Turns: want.turns}) {
		t.Fatalf("%v: the table is %v, not %v", said, shortPairs(got.Pairs), shortPairs(want.pairs))
	}
	if !impl.TableOk(got) {
		t.Fatalf("%v: %v is not valid", said, shortPairs(got.Pairs))
	}
	for _, k := range keys {
		if a, b := impl.Get(got, k), want.get(k); !alike(a, b) {
			t.Fatalf("%v: Get at %v is %v, not %v", said, short(k), short(a), short(b))
		}
	}
	turns := []int{math.MinInt, -1, 0, want.turns - 1, want.turns, want.turns + 1, math.MaxInt}
	for _, x := range want.pairs {
		turns = append(turns, x.Turn-1, x.Turn, x.Turn+1)
	}
	for _, turn := range turns {
		if a, b := impl.After(got, turn), want.after(turn); !alikeFound(a, b) {
			t.Fatalf("%v: After %d is %v, not %v", said, turn, a, b)
		}
	}
	if a, b := impl.Length(got), want.length(); a != b {
		t.Fatalf("%v: Length is %d, not %d", said, a, b)
	}
}

type badTable struct {
	name  string
	table impl.Table
}

// badTables has a table for each clause by which a table is not valid, each but for that one clause good.
func badTables() []badTable {
	one, two, val := intOf(1), intOf(2), strOf("v")
	long := countedTable(impl.MaxPairs + 1)
	out := []badTable{
		{"a pair too many", long},
		{"Turns below 0", tableOf(-1)}, {"Turns at the least", tableOf(math.MinInt)}, {"Turns too great", tableOf(mostTurns + 1)}, {"Turns at the greatest", tableOf(math.MaxInt)},
		{"Turns too great with a pair", tableOf(mostTurns+1, pairOf(one, val, 1))},
		{"last Turn above Turns", tableOf(1, pairOf(one, val, 2))}, {"last of two above Turns", tableOf(2, pairOf(one, val, 1), pairOf(two, val, 3))}, {"a Turn and no Turns", tableOf(0, pairOf(one, val, 1))},
		{"first Turn 0", tableOf(5, pairOf(one, val, 0))}, {"first Turn below 0", tableOf(5, pairOf(one, val, -1), pairOf(two, val, 2))}, {"first Turn at the least", tableOf(5, pairOf(one, val, math.MinInt))},
		{"equal Turns", tableOf(5, pairOf(one, val, 2), pairOf(two, val, 2))}, {"Turns that descend", tableOf(5, pairOf(one, val, 3), pairOf(two, val, 2))},
		{"Turns that descend later", tableOf(9, pairOf(one, val, 3), pairOf(two, val, 7), pairOf(intOf(3), val, 5))},
		{"nil as a key", tableOf(5, pairOf(nilValue(), val, 1))}, {"a NaN as a key", tableOf(5, pairOf(fltOf(nan), val, 1))},
		{"a whole float as a key", tableOf(5, pairOf(fltOf(1), val, 1))}, {"0.0 as a key", tableOf(5, pairOf(fltOf(0), val, 1))}, {"-0.0 as a key", tableOf(5, pairOf(fltOf(minusZero), val, 1))},
		{"-2^63 as a float key", tableOf(5, pairOf(fltOf(-two63), val, 1))}, {"the float below 2^63 as a key", tableOf(5, pairOf(fltOf(next(two63, 0)), val, 1))}, {"2^53 as a float key", tableOf(5, pairOf(fltOf(two53), val, 1))},
		{"nil as a value", tableOf(5, pairOf(one, nilValue(), 1))}, {"nil as the second value", tableOf(5, pairOf(one, val, 1), pairOf(two, nilValue(), 2))},
	}
	for _, v := range badValues() {
		out = append(out, badTable{"a bad key", tableOf(5, pairOf(v, val, 1))}, badTable{"a bad second key", tableOf(5, pairOf(one, val, 1), pairOf(v, val, 2))})
		out = append(out, badTable{"a bad value", tableOf(5, pairOf(one, v, 1))}, badTable{"a bad second value", tableOf(5, pairOf(one, val, 1), pairOf(two, v, 2))})
	}
	for _, k := range goodKeys() {
		signed := k
		if k.Kind != impl.KFlt {
			signed.Flt = minusZero
		}
		out = append(out, badTable{"a key twice", tableOf(9, pairOf(k, val, 1), pairOf(strOf("between"), val, 3), pairOf(signed, one, 4))})
	}
	return out
}

// goodKeys are the good values that Key leaves as they are.
func goodKeys() []impl.Value {
	var out []impl.Value
	for _, v := range goodValues() {
		if key, ok := plainKey(v); ok && alike(key, v) {
			out = append(out, v)
		}
	}
	return out
}
