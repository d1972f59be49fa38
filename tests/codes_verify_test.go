package tests

import (
	"slices"
	"testing"

	"loop.example/punch/impl"
)

// judged is a text with six registers and what CheckCode makes of it.
type judged struct {
	name string
	want impl.Fault
	ins  []impl.Ins
}

func hold(t *testing.T, cases []judged) {
	t.Helper()
	for _, c := range cases {
		code := textOf(6, c.ins...)
		if got := impl.CheckShape(code); got != (impl.Fault{}) {
			t.Errorf("%s: shape %v", c.name, got)
		}
		if got := impl.CheckCode(code); got != c.want {
			t.Errorf("%s: %v, want %v", c.name, got, c.want)
		}
		if got := impl.States(code, 0); (len(got) == 0) != (c.want != impl.Fault{}) {
			t.Errorf("%s: States %v", c.name, stateTexts(got))
		}
	}
}

// filled puts a value in registers 0 to 2, a box in 3, a list in 4; 5 holds nothing. Six instructions.
func filled(ins ...impl.Ins) []impl.Ins {
	return append([]impl.Ins{
		do(impl.IConst, 0, 0), do(impl.IConst, 1, 0), do(impl.IConst, 2, 0),
		do(impl.IBox, 3, 0), do(impl.IList, 4), do(impl.ITick),
	}, ins...)
}

// ended is filled, with a return of the list in 4 behind it, if one is there.
func ended(ins ...impl.Ins) []impl.Ins {
	return append(filled(ins...), do(impl.IList, 4), do(impl.IReturn, 4))
}

// reads tells for each field that is read what it asks for: v, b or l, in capitals for a place.
func reads() map[int]string {
	return map[int]string{
		impl.IMove: ".v", impl.IBox: ".v", impl.IGet: ".B", impl.IPut: "Bv", impl.IRaw: "Vvv", impl.IRawAll: "Vvl", impl.IIndex: ".vv", impl.ISet: "vvv",
		impl.IUnary: ".ov", impl.IBinary: ".ovv", impl.IIf: "vi", impl.IUnless: "vi", impl.IAdd: "Lv", impl.IJoin: "Ll", impl.IFirst: ".l",
		impl.IPick: ".L", impl.ICopy: ".L", impl.ICall: ".vl", impl.IReturn: "l", impl.IThrow: "v",
	}
}

// readingIns is an instruction with operands that suit: register 0 for a value, 3 for a box, 4 for a list, and 5 as the place.
func readingIns(op int, form string) [4]int {
	fields := [4]int{}
	for i, f := range form {
		switch f {
		case '.':
			fields[i] = 5
		case 'b', 'B':
			fields[i] = 3
		case 'l', 'L':
			fields[i] = 4
		case 'o':
			fields[i] = map[int]int{impl.IUnary: impl.OpNeg, impl.IBinary: impl.OpAdd}[op]
		case 'i':
			fields[i] = 7
		}
	}
	return fields
}

func TestEveryReadAsksForItsType(t *testing.T) {
	holds := "vvvbl."
	for op, form := range reads() {
		good := readingIns(op, form)
		if got := impl.CheckCode(textOf(6, ended(do(op, good[:]...))...)); got != (impl.Fault{}) {
			t.Errorf("%d %v: %v", op, good, got)
		}
		for i, f := range form {
			if f == '.' || f == 'o' || f == 'i' {
				continue
			}
			isPlace := f < 'a'
			for reg := range 6 {
				fields := good
				fields[i] = reg
				fits := holds[reg] == byte(f|0x20)
				holdRead(t, do(op, fields[:]...), fits)
				if !isPlace {
					fields[i] = -1 - reg
					taken := fits && !slices.Contains(othersBehind(form, fields, i), reg) && !slices.Contains(placesAhead(form, fields, i), reg)
					holdRead(t, do(op, fields[:]...), taken)
				}
			}
		}
	}
}

func holdRead(t *testing.T, ins impl.Ins, fits bool) {
	t.Helper()
	want := impl.Fault{}
	if !fits {
		want = faultOf(10, 0, 6)
	}
	if got := impl.CheckCode(textOf(6, ended(ins)...)); got != want {
		t.Errorf("%v: %v, want %v", ins, got, want)
	}
}

// othersBehind are the registers that are read behind a field.
func othersBehind(form string, fields [4]int, i int) []int {
	var out []int
	for j := i + 1; j < len(form); j++ {
		if form[j] == 'v' || form[j] == 'l' {
			out = append(out, fields[j])
		}
	}
	return out
}

func placesAhead(form string, fields [4]int, i int) []int {
	var out []int
	for j := range i {
		if form[j] == 'V' || form[j] == 'L' || form[j] == 'B' {
			out = append(out, fields[j])
		}
	}
	return out
}

func TestOperandsThatAreTaken(t *testing.T) {
	bad := faultOf(10, 0, 6)
	hold(t, []judged{
		{"read, then taken", impl.Fault{}, ended(do(impl.IBinary, 5, impl.OpAdd, 0, -1))},
		{"taken, then read", bad, ended(do(impl.IBinary, 5, impl.OpAdd, -1, 0))},
		{"taken twice", bad, ended(do(impl.IBinary, 5, impl.OpAdd, -1, -1))},
		{"two taken", impl.Fault{}, ended(do(impl.IBinary, 5, impl.OpAdd, -1, -2))},
		{"taken and put back", impl.Fault{}, ended(do(impl.IBinary, 0, impl.OpAdd, -1, 1), do(impl.IMove, 5, 0))},
		{"a place is written behind the taking", impl.Fault{}, ended(do(impl.IBox, 0, -1), do(impl.IGet, 1, 0))},
		{"first and third taken", bad, ended(do(impl.ISet, -1, 1, -1))},
		{"second and third taken", bad, ended(do(impl.ISet, 0, -2, -2))},
		{"first taken, second read", bad, ended(do(impl.ISet, -1, 0, 1))},
		{"read, read and taken", impl.Fault{}, ended(do(impl.ISet, 0, 0, -1))},
		{"all taken", impl.Fault{}, ended(do(impl.ISet, -1, -2, -3))},
		{"a place, then taken by B", bad, ended(do(impl.IRaw, 0, -1, 1))},
		{"a place, then taken by C", bad, ended(do(impl.IRaw, 0, 1, -1))},
		{"a place, then read", impl.Fault{}, ended(do(impl.IRaw, 0, 0, 0))},
		{"another is taken than the place", impl.Fault{}, ended(do(impl.IRaw, 0, -2, -3))},
		{"a place of IRawAll, then taken", bad, ended(do(impl.IRawAll, 0, -1, 4))},
		{"IRawAll takes others", impl.Fault{}, ended(do(impl.IRawAll, 0, -2, -5))},
		{"a list behind itself", impl.Fault{}, ended(do(impl.IJoin, 4, 4))},
		{"a list behind itself, taken", bad, ended(do(impl.IJoin, 4, -5))},
		{"what was taken is gone behind it", faultOf(10, 0, 7), ended(do(impl.IIf, -1, 7), do(impl.IMove, 5, 0))},
		{"what was taken is gone where it goes on", faultOf(10, 0, 8), ended(do(impl.IIf, -1, 8), do(impl.IJump, 9), do(impl.IMove, 5, 0))},
		{"call of a thing taken from its own place", impl.Fault{}, ended(do(impl.ICall, 0, -1, -5), do(impl.IReturn, 0))},
		{"defer of what was taken", bad, ended(do(impl.IDefer, -1, -1))},
	})
}

// The first and the last register can be taken, each with what it holds.
func TestFirstAndLastRegisterAreTaken(t *testing.T) {
	for regs := 2; regs <= impl.MaxRegs; regs += 62 {
		last := regs - 1
		c := textOf(regs, do(impl.IConst, last, 0), do(impl.IMove, 0, -regs), do(impl.IMove, last, -1), do(impl.IThrow, -regs))
		if got := impl.CheckCode(c); got != (impl.Fault{}) {
			t.Errorf("%d registers: %v", regs, got)
		}
		c.Protos[0].Ins[3] = do(impl.IThrow, -1)
		if got := impl.CheckCode(c); got != faultOf(10, 0, 3) {
			t.Errorf("%d registers: %v", regs, got)
		}
		c.Protos[0].Ins[3] = do(impl.IThrow, -regs-1)
		if got := impl.CheckCode(c); got != faultOf(5, 0, 3) {
			t.Errorf("%d registers: %v", regs, got)
		}
	}
}

func TestLoopsAskForTheirPlaces(t *testing.T) {
	bad := faultOf(10, 0, 6)
	var cases []judged
	for _, op := range []int{impl.IFor, impl.IForTest, impl.IForNext} {
		to := 7
		if op == impl.IFor {
			to = 0
		}
		cases = append(cases,
			judged{"three values", impl.Fault{}, ended(do(op, 0, to))},
			judged{"the third a box", bad, ended(do(op, 1, to))},
			judged{"the second a box", bad, ended(do(op, 2, to))},
			judged{"the first a box", bad, ended(do(op, 3, to))},
		)
		for gone := range 3 {
			cases = append(cases, judged{"one gone", faultOf(10, 0, 7), ended(do(impl.IDrop, gone), do(op, 0, to))})
		}
	}
	hold(t, append(cases,
		judged{"each of a value and nothing", impl.Fault{}, ended(do(impl.IDrop, 1), do(impl.IEach, 0), do(impl.IMove, 5, 1))},
		judged{"each of a value and a value", bad, ended(do(impl.IEach, 0))},
		judged{"each of a value and a box", bad, ended(do(impl.IEach, 2))},
		judged{"each of a box", faultOf(10, 0, 7), ended(do(impl.IDrop, 4), do(impl.IEach, 3))},
		judged{"each of a list", bad, ended(do(impl.IEach, 4))},
		judged{"each of nothing", faultOf(10, 0, 8), ended(do(impl.IDrop, 0), do(impl.IDrop, 1), do(impl.IEach, 0))},
		judged{"a turn of two values", impl.Fault{}, ended(do(impl.IEachNext, 0, 7, 4))},
		judged{"a turn of a value and nothing", faultOf(10, 0, 7), ended(do(impl.IDrop, 1), do(impl.IEachNext, 0, 8, 4))},
		judged{"a turn of nothing and a value", faultOf(10, 0, 7), ended(do(impl.IDrop, 0), do(impl.IEachNext, 0, 8, 4))},
		judged{"a turn of a value and a box", bad, ended(do(impl.IEachNext, 2, 7, 4))},
		judged{"a turn of a box and a list", bad, ended(do(impl.IEachNext, 3, 7, 4))},
		judged{"a turn whose list comes where it stands", faultOf(13, 0, 6), ended(do(impl.IEachNext, 0, 6, 1), do(impl.IJump, 6))},
		judged{"a turn whose list comes where it stands, once", impl.Fault{}, ended(do(impl.IEachNext, 0, 8, 1), do(impl.IReturn, 1))},
	))
}

// IGet and the others that only look leave what they look at, and IDrop asks for nothing.
func TestPlacesThatStay(t *testing.T) {
	hold(t, []judged{
		{"a box is looked at twice", impl.Fault{}, ended(do(impl.IGet, 0, 3), do(impl.IGet, 0, 3), do(impl.IPut, 3, 0), do(impl.IPut, 3, -1))},
		{"a box becomes what it held", faultOf(10, 0, 7), ended(do(impl.IGet, 3, 3), do(impl.IGet, 0, 3))},
		{"a list becomes its element", faultOf(10, 0, 7), ended(do(impl.IPick, 4, 4, 0), do(impl.IPick, 0, 4, 0))},
		{"a list is copied onto itself", impl.Fault{}, ended(do(impl.ICopy, 4, 4), do(impl.IPick, 0, 4, 0))},
		{"a list stays behind a pick", impl.Fault{}, ended(do(impl.IPick, 0, 4, 0), do(impl.ICopy, 5, 4), do(impl.IReturn, 5))},
		{"all is dropped", impl.Fault{}, ended(do(impl.IDrop, 0), do(impl.IDrop, 0), do(impl.IDrop, 3), do(impl.IDrop, 4), do(impl.IDrop, 5))},
		{"a dropped one is read", faultOf(10, 0, 7), ended(do(impl.IDrop, 3), do(impl.IGet, 0, 3))},
		{"a fn is a value", impl.Fault{}, ended(do(impl.ITable, 3), do(impl.IMove, 5, 3))},
		{"a value where a box was", faultOf(10, 0, 7), ended(do(impl.IConst, 3, 0), do(impl.IGet, 0, 3))},
		{"a box where a value was", faultOf(10, 0, 7), ended(do(impl.IBox, 0, 0), do(impl.IMove, 1, 0))},
		{"a list where a value was", faultOf(10, 0, 7), ended(do(impl.IList, 0), do(impl.IMove, 1, 0))},
		{"a call's list is no value", faultOf(10, 0, 7), ended(do(impl.ICall, 0, 0, 4), do(impl.IMove, 1, 0))},
	})
}

func TestLocalUpsAreBoxes(t *testing.T) {
	code := func(ups ...impl.Up) impl.Code {
		fn := plainFn()
		fn.Ups = ups
		return codeOf(protoOf(6, ended(do(impl.IFn, 5, 1), do(impl.IMove, 0, 5))...), fn)
	}
	for reg := range 6 {
		want := faultOf(10, 0, 6)
		if reg == 3 {
			want = impl.Fault{}
		}
		up := impl.Up{Local: true, Index: reg}
		if got := impl.CheckCode(code(up)); got != want {
			t.Errorf("up %d: %v", reg, got)
		}
		if got := impl.CheckCode(code(impl.Up{Local: true, Index: 3}, up)); got != want {
			t.Errorf("up %d behind another: %v", reg, got)
		}
	}
	c := code(impl.Up{Local: true, Index: 3})
	c.Protos[0].Ins[6].A, c.Protos[0].Ins[7].B = 3, 3
	if got := impl.CheckCode(c); got != (impl.Fault{}) {
		t.Errorf("a fn where its box was: %v", got)
	}
}

func TestGuardsThatAreAskedFor(t *testing.T) {
	bad := faultOf(11, 0, 6)
	handler := do(impl.IThrow, 5)
	hold(t, []judged{
		{"IEndTry without a guard", bad, ended(do(impl.IEndTry))},
		{"IKeep without a guard", bad, ended(do(impl.IKeep, 0))},
		{"IDefer without a guard", bad, ended(do(impl.IDefer, 0, 4))},
		{"ILeave without a guard", bad, ended(do(impl.ILeave))},
		{"IEndTry in defers", faultOf(11, 0, 7), ended(do(impl.IScope, 0), do(impl.IEndTry))},
		{"IKeep in a catch", faultOf(11, 0, 7), append(ended(do(impl.ITry, 10, 4), do(impl.IKeep, 6), do(impl.IEndTry)), handler, handler)},
		{"IDefer in a catch", faultOf(11, 0, 7), append(ended(do(impl.ITry, 10, 4), do(impl.IDefer, 0, 4), do(impl.IEndTry)), handler, handler)},
		{"ILeave in a catch", faultOf(11, 0, 7), append(ended(do(impl.ITry, 9, 4), do(impl.ILeave)), handler, handler)},
		{"IEndTry twice", faultOf(11, 0, 8), append(ended(do(impl.ITry, 11, 4), do(impl.IEndTry), do(impl.IEndTry)), handler, handler)},
		{"ILeave twice", faultOf(11, 0, 8), ended(do(impl.IScope, 0), do(impl.ILeave), do(impl.ILeave))},
		{"the innermost counts: defers in a catch", faultOf(11, 0, 8), append(ended(do(impl.ITry, 11, 4), do(impl.IScope, 4), do(impl.IEndTry)), handler, handler)},
		{"the innermost counts: a catch in defers", faultOf(11, 0, 8), append(ended(do(impl.IScope, 4), do(impl.ITry, 11, 4), do(impl.ILeave)), handler, handler)},
		{"both, off in their order", impl.Fault{}, append(ended(do(impl.IScope, 4), do(impl.ITry, 12, 4), do(impl.IEndTry), do(impl.ILeave)), handler, handler, handler)},
		{"a return inside of guards", impl.Fault{}, append(ended(do(impl.IScope, 4), do(impl.ITry, 10, 4)), do(impl.IThrow, 4), do(impl.IThrow, 4))},
		{"a throw inside of guards", impl.Fault{}, append(ended(do(impl.IScope, 4), do(impl.ITry, 9, 4), do(impl.IThrow, 0)), do(impl.IThrow, 4))},
		{"IDefer stays in its guard", impl.Fault{}, ended(do(impl.IScope, 0), do(impl.IDefer, 0, 4), do(impl.IDefer, -1, -5), do(impl.ILeave))},
	})
}

// trying puts on a catch with a keep at instruction 6, gives it ins to guard, takes it off and ends; its handler comes behind that, and one more for a catch among ins.
func trying(keep int, ins ...impl.Ins) []impl.Ins {
	all := filled(do(impl.ITry, 9+len(ins), keep))
	all = append(all, ins...)
	return append(all, do(impl.IEndTry), do(impl.IThrow, 0), do(impl.IThrow, keep), do(impl.IThrow, 0))
}

func TestKeepsOfGuards(t *testing.T) {
	bad := faultOf(11, 0, 7)
	var cases []judged
	for keep := range 5 {
		for own := range 7 {
			want := impl.Fault{}
			if own < keep {
				want = bad
			}
			cases = append(cases, judged{"a scope in a catch", want, trying(keep, do(impl.IScope, own), do(impl.ILeave))})
			if own < keep {
				want = faultOf(11, 0, 8)
			}
			cases = append(cases, judged{"a keep in a catch", want, trying(keep, do(impl.IScope, 6), do(impl.IKeep, own), do(impl.ILeave))})
			if own > 4 {
				continue
			}
			if own < keep {
				want = bad
			}
			cases = append(cases, judged{"a catch in a catch", want, trying(keep, do(impl.ITry, 12, own), do(impl.IEndTry))})
		}
	}
	for own := range 7 {
		cases = append(cases,
			judged{"a scope in a scope", impl.Fault{}, ended(do(impl.IScope, 6), do(impl.IScope, own), do(impl.ILeave), do(impl.ILeave))},
			judged{"a keep in a scope", impl.Fault{}, ended(do(impl.IScope, 6), do(impl.IScope, 3), do(impl.IKeep, own), do(impl.IKeep, 0), do(impl.ILeave), do(impl.ILeave))})
	}
	hold(t, append(cases,
		judged{"a scope below a catch further out", faultOf(11, 0, 8), trying(2, do(impl.IScope, 4), do(impl.IScope, 1), do(impl.ILeave), do(impl.ILeave))},
		judged{"a scope below a scope, not below the catch", impl.Fault{}, trying(2, do(impl.IScope, 4), do(impl.IScope, 2), do(impl.ILeave), do(impl.ILeave))},
		judged{"a keep below a catch further out", faultOf(11, 0, 9), trying(2, do(impl.IScope, 4), do(impl.IScope, 4), do(impl.IKeep, 1), do(impl.ILeave), do(impl.ILeave))},
		judged{"a catch below a catch further out", faultOf(11, 0, 8), trying(2, do(impl.IScope, 4), do(impl.ITry, 14, 1), do(impl.IEndTry), do(impl.ILeave))},
		judged{"a catch below two catches", faultOf(11, 0, 8), trying(1, do(impl.ITry, 14, 3), do(impl.ITry, 14, 2), do(impl.IEndTry), do(impl.IEndTry))},
		judged{"behind an IEndTry the keep counts no more", impl.Fault{}, filled(do(impl.ITry, 11, 3), do(impl.IEndTry), do(impl.IScope, 0), do(impl.ILeave), do(impl.IThrow, 0), do(impl.IThrow, 3))},
		judged{"in the handler it counts no more", impl.Fault{}, filled(do(impl.ITry, 8, 3), do(impl.IThrow, 0), do(impl.IScope, 0), do(impl.ILeave), do(impl.IThrow, 3))},
		judged{"in the handler that of the guard around counts", faultOf(11, 0, 9), filled(do(impl.ITry, 11, 1), do(impl.ITry, 9, 3), do(impl.IThrow, 0), do(impl.IScope, 0), do(impl.IThrow, 3), do(impl.IThrow, 1))},
	))
}

func TestMaxGuards(t *testing.T) {
	for _, c := range []struct {
		n    int
		last impl.Ins
		want impl.Fault
	}{
		{impl.MaxGuards - 1, do(impl.IScope, 0), impl.Fault{}},
		{impl.MaxGuards, do(impl.IScope, 0), faultOf(11, 0, impl.MaxGuards)},
		{impl.MaxGuards, do(impl.IKeep, 2), impl.Fault{}},
		{impl.MaxGuards, do(impl.ILeave), impl.Fault{}},
		{impl.MaxGuards, do(impl.ITick), impl.Fault{}},
		{impl.MaxGuards, do(impl.ITry, impl.MaxGuards+1, 0), faultOf(11, 0, impl.MaxGuards)},
		{impl.MaxGuards + 1, do(impl.ITick), faultOf(11, 0, impl.MaxGuards)},
	} {
		if got := impl.CheckCode(withEnding(2, append(times(c.n, do(impl.IScope, 0)), c.last)...)); got != c.want {
			t.Errorf("%d guards with defers and %v: %v", c.n, c.last, got)
		}
	}
	for _, n := range []int{impl.MaxGuards, impl.MaxGuards + 1} {
		var tries []impl.Ins
		for i := range n {
			tries = append(tries, do(impl.ITry, n+2+i, 0))
		}
		c := withEnding(3, tries...)
		c.Protos[0].Ins = append(c.Protos[0].Ins, times(n, do(impl.IThrow, 0))...)
		want := impl.Fault{}
		if n > impl.MaxGuards {
			want = faultOf(11, 0, impl.MaxGuards)
		}
		if got := impl.CheckCode(c); got != want {
			t.Errorf("%d guards that catch: %v", n, got)
		}
	}
	mixed := withEnding(2, append(times(impl.MaxGuards, do(impl.IScope, 0)), times(impl.MaxGuards, do(impl.ILeave))...)...)
	states := impl.States(mixed, 0)
	for i, s := range states {
		if want := min(i, max(0, 2*impl.MaxGuards-i)); len(s.Guards) != want {
			t.Errorf("ahead of %d there are %d guards, want %d", i, len(s.Guards), want)
		}
	}
	if len(states) != 2*impl.MaxGuards+2 {
		t.Errorf("%d states", len(states))
	}
}

func TestRegistersThatAreKept(t *testing.T) {
	bad := faultOf(12, 0, 7)
	keeps := func(keep int, want impl.Fault, name string, ins ...impl.Ins) judged {
		return judged{name, want, trying(keep, ins...)}
	}
	hold(t, []judged{
		keeps(2, bad, "taken", do(impl.IMove, 5, -2)),
		keeps(1, impl.Fault{}, "taken at the keep", do(impl.IMove, 5, -2)),
		keeps(2, bad, "taken and put back", do(impl.IMove, 1, -2)),
		keeps(1, impl.Fault{}, "taken and put back at the keep", do(impl.IMove, 1, -2)),
		keeps(2, impl.Fault{}, "written with its type", do(impl.IMove, 1, 0), do(impl.IConst, 0, 0), do(impl.ITable, 1), do(impl.IUnary, 1, impl.OpNot, 1)),
		keeps(2, bad, "dropped", do(impl.IDrop, 1)),
		keeps(1, impl.Fault{}, "dropped at the keep", do(impl.IDrop, 1)),
		keeps(2, bad, "a box in its place", do(impl.IBox, 1, 1)),
		keeps(2, bad, "a list in its place", do(impl.IList, 1)),
		keeps(2, bad, "a call's list in its place", do(impl.ICall, 1, 0, 4)),
		keeps(4, bad, "a value in a box's place", do(impl.IGet, 3, 3)),
		keeps(4, impl.Fault{}, "another box in its place", do(impl.IBox, 3, 0)),
		keeps(4, impl.Fault{}, "what a box holds", do(impl.IPut, 3, 0)),
		keeps(4, bad, "taken for a box", do(impl.IPut, 3, -1)),
		keeps(2, bad, "taken by a table", do(impl.IRaw, 2, 1, -2)),
		keeps(2, bad, "taken by a jump", do(impl.IIf, -2, 8)),
		keeps(2, bad, "taken second", do(impl.ISet, 0, -2, 2)),
		keeps(2, bad, "taken third", do(impl.ISet, 0, 0, -2)),
		keeps(2, bad, "taken by a throw", do(impl.IThrow, -2), do(impl.ITick)),
		keeps(2, impl.Fault{}, "thrown", do(impl.IIf, 0, 9), do(impl.IThrow, 1), do(impl.ITick)),
		keeps(3, bad, "below another that is taken rightly", do(impl.IBinary, 5, impl.OpAdd, -3, 0)),
	})
}

// A register that holds nothing is kept too, and a list at the keep's edge.
func TestOtherRegistersThatAreKept(t *testing.T) {
	tryAt := func(keep int, want impl.Fault, name string, ins ...impl.Ins) judged {
		head := []impl.Ins{do(impl.IList, 1), do(impl.IConst, 2, 0), do(impl.ITry, 4+len(ins), keep)}
		return judged{name, want, append(append(head, ins...), do(impl.IReturn, 1), do(impl.IThrow, keep))}
	}
	bad := faultOf(12, 0, 3)
	hold(t, []judged{
		tryAt(3, impl.Fault{}, "nothing stays nothing", do(impl.IDrop, 0)),
		tryAt(3, bad, "nothing becomes a value", do(impl.IConst, 0, 0)),
		tryAt(3, bad, "nothing becomes a box", do(impl.IBox, 0, 2)),
		tryAt(3, bad, "nothing becomes a list", do(impl.IList, 0)),
		tryAt(0, impl.Fault{}, "no register is kept", do(impl.IConst, 0, 0)),
		tryAt(3, impl.Fault{}, "a list grows", do(impl.IAdd, 1, 2), do(impl.IJoin, 1, 1), do(impl.ICopy, 1, 1)),
		tryAt(3, bad, "a list is taken", do(impl.IFirst, 5, -2)),
		tryAt(3, bad, "a list becomes its element", do(impl.IPick, 1, 1, 0)),
		tryAt(3, bad, "a return takes", do(impl.IReturn, -2), do(impl.ITick)),
		tryAt(3, bad, "what is gone through is kept", do(impl.IEach, 2)),
		tryAt(2, impl.Fault{}, "what is gone through is not kept", do(impl.IEach, 2)),
		tryAt(3, faultOf(12, 0, 4), "what is gone through is kept, and what stands beside it not", do(impl.ITick), do(impl.IEach, 2)),
	})
}

// The list of IEachNext comes on one of its ways only, but that counts.
func TestTurnsBelowAKeep(t *testing.T) {
	code := func(keep, c int) []impl.Ins {
		return []impl.Ins{
			do(impl.IConst, 2, 0), do(impl.IEach, 2), do(impl.IList, 1), do(impl.ITry, 6, keep),
			do(impl.IEachNext, 2, 5, c), do(impl.IReturn, 1), do(impl.IThrow, keep),
		}
	}
	hold(t, []judged{
		{"a list for nothing", faultOf(12, 0, 4), code(1, 0)},
		{"a list for a list", impl.Fault{}, code(2, 1)},
		{"a list for a value", faultOf(12, 0, 4), code(3, 2)},
		{"a list for where it stands", faultOf(12, 0, 4), code(4, 3)},
	})
	c := code(0, 0)
	c[4].B = 7
	hold(t, []judged{{"a list where nothing is kept", impl.Fault{}, append(c, do(impl.IThrow, 2))}})
}

// Each guard that catches is asked, also one that stands around others; guards with defers keep nothing.
func TestKeptByWhichGuard(t *testing.T) {
	take, drop := do(impl.IMove, 5, -2), do(impl.IDrop, 1)
	hold(t, []judged{
		{"a catch around defers", faultOf(12, 0, 8), trying(2, do(impl.IScope, 2), take, do(impl.ILeave))},
		{"defers around a catch", impl.Fault{}, filled(do(impl.IScope, 6), do(impl.ITry, 10, 1), take, do(impl.IReturn, 4), do(impl.IThrow, 1))},
		{"defers alone", impl.Fault{}, ended(do(impl.IScope, 6), take, do(impl.IConst, 1, 0), drop, do(impl.ILeave))},
		{"the inner of two", faultOf(12, 0, 8), trying(1, do(impl.ITry, 13, 2), drop, do(impl.IEndTry))},
		{"behind the inner of two", impl.Fault{}, trying(1, do(impl.ITry, 13, 2), do(impl.IEndTry), drop)},
		{"the outer of two", faultOf(12, 0, 8), trying(2, do(impl.ITry, 13, 4), take, do(impl.IEndTry))},
		{"the outer, behind the inner", faultOf(12, 0, 9), trying(2, do(impl.ITry, 13, 4), do(impl.IEndTry), drop)},
		{"behind both", impl.Fault{}, filled(do(impl.ITry, 11, 3), do(impl.IEndTry), take, do(impl.IDrop, 0), do(impl.IReturn, 4), do(impl.IThrow, 3))},
		{"in the handler", impl.Fault{}, filled(do(impl.ITry, 8, 3), do(impl.IThrow, 0), take, do(impl.IDrop, 0), do(impl.IThrow, 3))},
		{"ITry itself is not among them", impl.Fault{}, trying(4)},
	})
}

func TestStateAtAHandler(t *testing.T) {
	for keep := range 5 {
		c := textOf(6, filled(do(impl.ITry, 8, keep), do(impl.IReturn, 4), do(impl.IThrow, keep+1))...)
		want := []string{"vv....", "vvv...", "vvvv..", "vvvvv.", "vvvbvv"}[keep]
		states := stateTexts(impl.States(c, 0))
		if len(states) != 9 || states[8] != want || states[7][:6] != "vvvbl." {
			t.Errorf("keep %d: %q", keep, states)
		}
	}
	hold(t, []judged{
		{"above them is nothing", faultOf(10, 0, 8), filled(do(impl.ITry, 8, 1), do(impl.IReturn, 4), do(impl.IGet, 0, 3), do(impl.IThrow, 0))},
		{"the list is a value there", faultOf(10, 0, 8), filled(do(impl.ITry, 8, 4), do(impl.IReturn, 4), do(impl.IReturn, 4))},
		{"below them all stays", impl.Fault{}, filled(do(impl.ITry, 8, 4), do(impl.IReturn, 4), do(impl.IGet, 5, 3), do(impl.IThrow, 5))},
		{"the guard is off there", faultOf(11, 0, 8), filled(do(impl.ITry, 8, 4), do(impl.IReturn, 4), do(impl.IEndTry), do(impl.IThrow, 5))},
		{"the guard around is on there", impl.Fault{}, filled(do(impl.IScope, 6), do(impl.ITry, 9, 4), do(impl.IReturn, 4), do(impl.ILeave), do(impl.IThrow, 5))},
		{"the handler is the next one", faultOf(13, 0, 7), filled(do(impl.ITry, 7, 4), do(impl.IThrow, 5))},
		{"the handler is the ITry, with another state", faultOf(13, 0, 6), filled(do(impl.ITry, 6, 4), do(impl.IReturn, 4))},
		{"a handler that is reached twice alike", impl.Fault{}, filled(do(impl.IIf, 0, 9), do(impl.ITry, 11, 4), do(impl.IReturn, 4), do(impl.ITry, 11, 4), do(impl.IReturn, 4), do(impl.IThrow, 5))},
		{"a handler that is reached with another keep", faultOf(13, 0, 11), filled(do(impl.IIf, 0, 9), do(impl.ITry, 11, 4), do(impl.IReturn, 4), do(impl.ITry, 11, 3), do(impl.IReturn, 4), do(impl.IThrow, 4))},
	})
}

func TestFollowersWithAnotherState(t *testing.T) {
	// At 6 it forks: 7 does one thing and goes on at 11, 9 the other.
	fork := func(a, b impl.Ins) []impl.Ins {
		return filled(do(impl.IIf, 0, 9), a, do(impl.IJump, 11), b, do(impl.ITick), do(impl.IThrow, 0), do(impl.IThrow, 1))
	}
	tick := do(impl.ITick)
	at := faultOf(13, 0, 11)
	hold(t, []judged{
		{"the same", impl.Fault{}, fork(tick, tick)},
		{"the same types in other ways", impl.Fault{}, fork(do(impl.IConst, 5, 0), do(impl.IMove, 5, 1))},
		{"a value and nothing", at, fork(do(impl.IConst, 5, 0), tick)},
		{"nothing and a value", at, fork(do(impl.IDrop, 0), tick)},
		{"a value and a box", at, fork(do(impl.IConst, 5, 0), do(impl.IBox, 5, 0))},
		{"a box and a list", at, fork(do(impl.IBox, 5, 0), do(impl.IList, 5))},
		{"taken and dropped", impl.Fault{}, fork(do(impl.IUnless, -2, 8), do(impl.IDrop, 1))},
		{"taken and not", at, fork(do(impl.IUnless, -2, 8), do(impl.IUnless, 1, 10))},
		{"a guard and none", at, fork(do(impl.IScope, 0), tick)},
		{"none and a guard", at, fork(tick, do(impl.IScope, 0))},
		{"guards alike", impl.Fault{}, fork(do(impl.IScope, 3), do(impl.IScope, 3))},
		{"guards with other keeps", at, fork(do(impl.IScope, 3), do(impl.IScope, 4))},
		{"catches alike", impl.Fault{}, fork(do(impl.ITry, 12, 3), do(impl.ITry, 12, 3))},
		{"a catch and defers", at, fork(do(impl.ITry, 12, 3), do(impl.IScope, 3))},
		{"two guards and one", faultOf(13, 0, 12), filled(do(impl.IScope, 1), do(impl.IIf, 0, 10), do(impl.IScope, 1), do(impl.IJump, 12), do(impl.IIf, 0, 12), do(impl.IThrow, 0), do(impl.IThrow, 0))},
	})
}

func TestGuardsWithOtherHandlers(t *testing.T) {
	ins := filled(do(impl.IIf, 0, 9), do(impl.ITry, 12, 3), do(impl.IJump, 11), do(impl.ITry, 13, 3), do(impl.ITick), do(impl.IThrow, 0), do(impl.IThrow, 3), do(impl.IThrow, 3))
	hold(t, []judged{{"catches with other handlers", faultOf(13, 0, 11), ins}})
	ins[9].A = 12
	hold(t, []judged{{"catches with one handler", impl.Fault{}, ins}})
}

func TestFollowersOfOneInstruction(t *testing.T) {
	hold(t, []judged{
		{"IIf to the next", impl.Fault{}, ended(do(impl.IIf, 0, 7), do(impl.ITick))},
		{"IUnless to the next, taking", impl.Fault{}, ended(do(impl.IUnless, -1, 7), do(impl.ITick))},
		{"IEachNext to the next, with a list", impl.Fault{}, ended(do(impl.IEachNext, 0, 7, 4), do(impl.ITick))},
		{"IEachNext to the next, without a list", faultOf(13, 0, 7), ended(do(impl.IEachNext, 0, 7, 5), do(impl.ITick))},
		{"IEachNext has no list at B", faultOf(10, 0, 9), ended(do(impl.IEachNext, 0, 9, 5), do(impl.IReturn, 5), do(impl.ITick), do(impl.IReturn, 5))},
		{"IEachNext has at B what was there", impl.Fault{}, ended(do(impl.IEachNext, 0, 8, 2), do(impl.IReturn, 2), do(impl.IThrow, 2))},
		{"IForTest has the same at B", impl.Fault{}, ended(do(impl.IForTest, 0, 8), do(impl.IReturn, 4), do(impl.IForTest, 0, 7), do(impl.IReturn, 4))},
		{"a jump back with another state", faultOf(13, 0, 5), ended(do(impl.IDrop, 0), do(impl.IJump, 5))},
		{"a jump back with the same", impl.Fault{}, ended(do(impl.IDrop, 5), do(impl.IJump, 5))},
		{"a jump to the beginning", faultOf(13, 0, 0), ended(do(impl.IJump, 0))},
		{"a jump to itself", faultOf(14, 0, 6), ended(do(impl.IJump, 6))},
	})
}
