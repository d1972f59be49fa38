package tests

import (
	"math/rand"
	"slices"
	"testing"

	"loop.example/punch/impl"
)

// steady are instructions that leave the state of filled as it is, so that they can stand in a round as instruction 6.
func steady() []impl.Ins {
	return []impl.Ins{
		do(impl.IAt, 0), do(impl.IConst, 0, 0), do(impl.IMove, 0, -1), do(impl.IBox, 3, 0), do(impl.IGet, 0, 3), do(impl.IPut, 3, 0), do(impl.ITable, 0),
		do(impl.IRaw, 0, 0, 0), do(impl.IRawAll, 0, 0, 4), do(impl.IIndex, 0, 0, 0), do(impl.ISet, 0, 0, 0), do(impl.IUnary, 0, impl.OpLen, 0),
		do(impl.IIf, 0, 7), do(impl.IUnless, 0, 7), do(impl.IList, 4), do(impl.IAdd, 4, 0), do(impl.IJoin, 4, 4), do(impl.IFirst, 0, 4), do(impl.IPick, 0, 4, 0), do(impl.ICopy, 4, 4),
		do(impl.IFor, 0), do(impl.IForTest, 0, 7), do(impl.IForNext, 0, 7), do(impl.IEachNext, 0, 7, 4), do(impl.IDrop, 5),
	}
}

func TestRoundsWithoutATick(t *testing.T) {
	var cases []judged
	for _, ins := range steady() {
		cases = append(cases, judged{"a round", faultOf(14, 0, 6), filled(ins, do(impl.IJump, 6))})
	}
	for op := impl.OpAdd; op <= impl.OpGe; op++ {
		want := faultOf(14, 0, 6)
		if op == impl.OpJoin {
			want = impl.Fault{}
		}
		cases = append(cases, judged{"a round of an operation", want, filled(do(impl.IBinary, 0, op, 0, 0), do(impl.IJump, 6))})
	}
	hold(t, append(cases,
		judged{"guards", faultOf(14, 0, 6), filled(do(impl.IScope, 0), do(impl.IKeep, 0), do(impl.IDefer, 0, 4), do(impl.ILeave), do(impl.IJump, 6))},
		judged{"a catch", faultOf(14, 0, 6), filled(do(impl.ITry, 9, 4), do(impl.IEndTry), do(impl.IJump, 6), do(impl.IThrow, 0))},
		judged{"one of itself", faultOf(14, 0, 6), filled(do(impl.IJump, 6))},
		judged{"IIf to itself", faultOf(14, 0, 6), ended(do(impl.IIf, 0, 6))},
		judged{"IUnless to itself", faultOf(14, 0, 6), ended(do(impl.IUnless, 0, 6))},
		judged{"IForTest to itself", faultOf(14, 0, 6), ended(do(impl.IForTest, 0, 6))},
		judged{"IForNext to itself", faultOf(14, 0, 6), ended(do(impl.IForNext, 0, 6))},
		judged{"IEachNext's B to itself", faultOf(14, 0, 6), ended(do(impl.IEachNext, 0, 6, 4))},
		judged{"IEachNext's B back", faultOf(14, 0, 6), ended(do(impl.IConst, 0, 0), do(impl.IEachNext, 0, 6, 4))},
	))
}

func TestRoundsWithATick(t *testing.T) {
	hold(t, []judged{
		{"ILine", impl.Fault{}, filled(do(impl.ILine, 1), do(impl.IJump, 6))},
		{"ITick", impl.Fault{}, filled(do(impl.ITick), do(impl.IJump, 6))},
		{"ICall", impl.Fault{}, filled(do(impl.ICall, 4, 0, 4), do(impl.IJump, 6))},
		{"OpJoin", impl.Fault{}, filled(do(impl.IBinary, 0, impl.OpJoin, 0, 0), do(impl.IJump, 6))},
		{"a turn of IEachNext", impl.Fault{}, filled(do(impl.IEachNext, 0, 8, 4), do(impl.IJump, 6), do(impl.IReturn, 4))},
		{"a turn of IEachNext to a tick and back by B", impl.Fault{}, filled(do(impl.IEachNext, 0, 7, 4), do(impl.ITick), do(impl.IJump, 6))},
		{"a tick at the end of the round", impl.Fault{}, filled(do(impl.IConst, 0, 0), do(impl.IIf, 0, 9), do(impl.IConst, 0, 0), do(impl.ITick), do(impl.IJump, 6))},
		{"a tick on one way only", faultOf(14, 0, 6), filled(do(impl.IConst, 0, 0), do(impl.IIf, 0, 9), do(impl.ITick), do(impl.IJump, 6))},
		{"a tick on both ways", impl.Fault{}, filled(do(impl.IConst, 0, 0), do(impl.IIf, 0, 10), do(impl.ITick), do(impl.IJump, 6), do(impl.ITick), do(impl.IJump, 6))},
		{"a tick ahead of the round", faultOf(14, 0, 7), filled(do(impl.ITick), do(impl.IConst, 0, 0), do(impl.IJump, 7))},
		{"a tick behind the round", faultOf(14, 0, 6), filled(do(impl.IConst, 0, 0), do(impl.IIf, 0, 6), do(impl.ITick), do(impl.IReturn, 4))},
		{"no round is reached", impl.Fault{}, filled(do(impl.IReturn, 4), do(impl.IJump, 7))},
		{"forks that meet again", impl.Fault{}, ended(do(impl.IIf, 0, 8), do(impl.IUnless, 0, 8), do(impl.IIf, 0, 10), do(impl.ITick))},
	})
}

// The handler's state has values in Keep and Keep + 1 and nothing above, so only such a state can go round through it.
func TestRoundsThroughAHandler(t *testing.T) {
	values := []impl.Ins{do(impl.IConst, 0, 0), do(impl.IConst, 1, 0)}
	code := func(ins ...impl.Ins) []impl.Ins { return append(slices.Clone(values), ins...) }
	hold(t, []judged{
		{"to the ITry", faultOf(14, 0, 2), code(do(impl.ITry, 2, 0), do(impl.IThrow, 0))},
		{"ahead of the ITry", faultOf(14, 0, 2), code(do(impl.IConst, 0, 0), do(impl.ITry, 2, 0), do(impl.IThrow, 0))},
		{"ahead of the ITry, with a tick", impl.Fault{}, code(do(impl.ITick), do(impl.ITry, 2, 0), do(impl.IThrow, 0))},
		{"behind the ITry", faultOf(14, 0, 2), code(do(impl.ITry, 4, 0), do(impl.IThrow, 0), do(impl.IJump, 2))},
		{"behind the ITry, with a tick", impl.Fault{}, code(do(impl.ITry, 4, 0), do(impl.IThrow, 0), do(impl.ITick), do(impl.IJump, 2))},
		{"a tick inside of the guard does not count", faultOf(14, 0, 2), code(do(impl.ITry, 5, 0), do(impl.ITick), do(impl.IThrow, 0), do(impl.IJump, 2))},
	})
}

func TestLeastRound(t *testing.T) {
	hold(t, []judged{
		{"of two, the first", faultOf(14, 0, 6), ended(do(impl.IIf, 0, 6), do(impl.IIf, 0, 7))},
		{"of two, the one with the tick not", faultOf(14, 0, 8), ended(do(impl.ITick), do(impl.IIf, 0, 6), do(impl.IIf, 0, 8))},
		{"entered from behind", faultOf(14, 0, 7), filled(do(impl.IJump, 10), do(impl.IConst, 0, 0), do(impl.IJump, 11), do(impl.IReturn, 4), do(impl.IJump, 8), do(impl.IJump, 7))},
		{"one that only leads into it", faultOf(14, 0, 8), filled(do(impl.IConst, 0, 0), do(impl.IConst, 0, 0), do(impl.IConst, 0, 0), do(impl.IJump, 8))},
		{"one that leads out of it", faultOf(14, 0, 8), filled(do(impl.IJump, 8), do(impl.IReturn, 4), do(impl.IIf, 0, 7), do(impl.IJump, 8))},
		{"one between two", faultOf(14, 0, 8), filled(do(impl.IJump, 10), do(impl.IJump, 9), do(impl.IJump, 8), do(impl.IJump, 8), do(impl.IIf, 0, 10), do(impl.IJump, 7))},
		{"a round in a round", faultOf(14, 0, 6), filled(do(impl.IConst, 0, 0), do(impl.IIf, 0, 7), do(impl.IJump, 6))},
		{"the tick cuts the outer one", faultOf(14, 0, 7), filled(do(impl.ITick), do(impl.IIf, 0, 7), do(impl.IJump, 6))},
		{"the beginning, and another one that is found later", faultOf(14, 0, 0), []impl.Ins{do(impl.IJump, 3), do(impl.ITick), do(impl.IJump, 2), do(impl.IConst, 0, 0), do(impl.IIf, -1, 0), do(impl.IJump, 1)}},
		{"two rounds that share one", faultOf(14, 0, 6), filled(do(impl.IIf, 0, 8), do(impl.IJump, 6), do(impl.ITick), do(impl.IJump, 6))},
	})
}

// A long round is found wherever it closes, and a long way without one is none.
func TestLongRounds(t *testing.T) {
	n := impl.MaxIns
	for _, to := range []int{0, 1, n / 2, n - 2, n - 1} {
		ins := append(times(n-1, do(impl.IAt, 1)), do(impl.IJump, to))
		if got := impl.CheckCode(textOf(1, ins...)); got != faultOf(14, 0, to) {
			t.Errorf("back to %d: %v", to, got)
		}
		ins[n-1] = do(impl.IJump, to)
		ins[to] = do(impl.ITick)
		want := impl.Fault{}
		if to == n-1 {
			want = faultOf(5, 0, n-1)
		}
		if got := impl.CheckCode(textOf(1, ins...)); got != want {
			t.Errorf("back to %d with a tick: %v", to, got)
		}
	}
	// Each one jumps over the one that stands ahead of it: the way goes to the end and back.
	zigzag := make([]impl.Ins, n)
	for i := range zigzag {
		zigzag[i] = do(impl.IJump, min(i+2, n-1))
		if i%2 == 1 {
			zigzag[i] = do(impl.IJump, max(i-2, 0))
		}
	}
	if got := impl.CheckCode(textOf(1, zigzag...)); got != faultOf(14, 0, 0) {
		t.Errorf("a zigzag: %v", got)
	}
	zigzag[1] = do(impl.IAt, 1)
	if got := impl.CheckCode(textOf(1, zigzag...)); got != faultOf(14, 0, 1) {
		t.Errorf("a zigzag that does not come back to its beginning: %v", got)
	}
	zigzag[1] = do(impl.ITick)
	if got := impl.CheckCode(textOf(1, zigzag...)); got != (impl.Fault{}) {
		t.Errorf("a zigzag with a tick: %v", got)
	}
}

// The verifier's work stays small for the greatest codes: all registers, all guards, many forks.
func TestGreatestCode(t *testing.T) {
	head := append(times(impl.MaxGuards, do(impl.IScope, impl.MaxRegs)), do(impl.IConst, 0, 0))
	for len(head) < impl.MaxIns-2 {
		head = append(head, do(impl.IIf, 0, len(head)+1))
	}
	c := withEnding(impl.MaxRegs, head...)
	if got := impl.CheckCode(c); got != (impl.Fault{}) {
		t.Fatal(got)
	}
	states := impl.States(c, 0)
	last := states[len(states)-1]
	if len(states) != impl.MaxIns || len(last.Types) != impl.MaxRegs || len(last.Guards) != impl.MaxGuards || last.Types[0] != impl.TValue || last.Types[impl.MaxRegs-1] != impl.TList {
		t.Errorf("%d states, the last %s", len(states), stateText(last))
	}
}

func TestOrderInOneInstruction(t *testing.T) {
	hold(t, []judged{
		{"a read ahead of a guard", faultOf(10, 0, 6), ended(do(impl.IDefer, 5, 4))},
		{"a read of the second ahead of a guard", faultOf(10, 0, 6), ended(do(impl.IDefer, 0, 5))},
		{"a read ahead of what is kept", faultOf(10, 0, 7), trying(2, do(impl.IBinary, 5, impl.OpAdd, -2, -2))},
		{"a guard ahead of what is kept", faultOf(11, 0, 7), trying(2, do(impl.IDefer, -2, 4))},
		{"what is kept ahead of a follower", faultOf(12, 0, 8), trying(2, do(impl.ITick), do(impl.IIf, -2, 7))},
		{"a follower ahead of a round", faultOf(13, 0, 6), ended(do(impl.IIf, -1, 6))},
	})
}

func TestOrderOfInstructions(t *testing.T) {
	wrong := do(impl.IThrow, 5)
	hold(t, []judged{
		{"the least in the set", faultOf(10, 0, 7), filled(do(impl.IIf, 0, 8), wrong, wrong)},
		{"the least in the set came last", faultOf(10, 0, 7), filled(do(impl.IJump, 8), wrong, do(impl.IIf, 0, 7), wrong)},
		{"the least stands later than what was done", faultOf(10, 0, 9), filled(do(impl.IJump, 8), do(impl.IReturn, 4), do(impl.IUnless, 0, 7), wrong)},
		{"a least one is reached too late", faultOf(10, 0, 8), filled(do(impl.IJump, 8), do(impl.IThrow, 5), wrong, do(impl.IJump, 7))},
		{"three in the set", faultOf(10, 0, 9), filled(do(impl.IIf, 0, 11), do(impl.IIf, 0, 9), do(impl.IReturn, 4), wrong, do(impl.IReturn, 4), wrong)},
		{"the next of the followers first", faultOf(13, 0, 10), filled(do(impl.IIf, 0, 10), do(impl.ITick), do(impl.IDrop, 1), do(impl.IIf, 0, 7), do(impl.IReturn, 4))},
		{"the other of the followers", faultOf(13, 0, 7), filled(do(impl.IIf, 0, 11), do(impl.ITick), do(impl.IDrop, 1), do(impl.IIf, 0, 7), do(impl.IReturn, 4), do(impl.IReturn, 4))},
		{"a follower ahead of a later read", faultOf(13, 0, 7), filled(do(impl.IIf, 0, 10), do(impl.ITick), do(impl.IDrop, 1), do(impl.IJump, 7), wrong)},
		{"a read ahead of a later follower", faultOf(10, 0, 7), filled(do(impl.IIf, 0, 8), wrong, do(impl.IDrop, 1), do(impl.IJump, 5))},
		{"a later read ahead of a round", faultOf(10, 0, 7), filled(do(impl.IIf, 0, 6), wrong)},
		{"what is not reached has no fault", impl.Fault{}, filled(do(impl.IReturn, 4), wrong, do(impl.IEndTry), do(impl.IKeep, 0), do(impl.IJump, 8))},
	})
}

// Many are due at once, in all orders: the first ones of them are sound, and the least of the others is told.
func TestLeastOfManyThatAreDue(t *testing.T) {
	dice := rand.New(rand.NewSource(3))
	n := 40
	for range 20 {
		forks := filled()
		for _, i := range dice.Perm(n) {
			forks = append(forks, do(impl.IIf, 0, 6+n+1+i))
		}
		forks = append(forks, do(impl.IReturn, 4))
		for wrong := range n {
			ins := append(slices.Clone(forks), append(times(wrong, do(impl.IReturn, 4)), times(n-wrong, do(impl.IThrow, 5))...)...)
			hold(t, []judged{{"many that are due", faultOf(10, 0, 6+n+1+wrong), ins}})
		}
	}
}

// A proto is gone through to its end, rounds too, ahead of the next one.
func TestOrderOfProtos(t *testing.T) {
	wrong := map[int]impl.Ins{0: do(impl.ITick), 10: do(impl.IMove, 1, 1), 11: do(impl.ILeave), 14: do(impl.IJump, 3)}
	for first, insOfFirst := range wrong {
		for second, insOfSecond := range wrong {
			for _, at := range [][2]int{{0, 1}, {1, 3}, {0, 3}, {2, 3}} {
				c := soundCode()
				for p := range c.Protos {
					c.Protos[p].Regs = 2
				}
				c.Protos[at[0]].Ins[3], c.Protos[at[1]].Ins[3] = insOfFirst, insOfSecond
				want := impl.Fault{}
				if second != 0 {
					want = faultOf(second, at[1], 3)
				}
				if first != 0 {
					want = faultOf(first, at[0], 3)
				}
				if got := impl.CheckCode(c); got != want {
					t.Errorf("%d in %d and %d in %d: %v, want %v", first, at[0], second, at[1], got, want)
				}
			}
		}
	}
}
