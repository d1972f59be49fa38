package tests

import (
	"slices"
	"testing"

	"loop.example/punch/impl"
)

// line is an instruction and the state ahead of it, as stateText writes it.
type line struct {
	ahead string
	ins   impl.Ins
}

// sheet is a proto and its lines.
type sheet struct {
	proto impl.Proto
	lines []line
}

func codeOfSheets(sheets []sheet) impl.Code {
	var c impl.Code
	for _, s := range sheets {
		p := s.proto
		p.Consts = []impl.Value{intOf(7)}
		for _, l := range s.lines {
			p.Ins = append(p.Ins, l.ins)
		}
		c.Protos = append(c.Protos, p)
	}
	return c
}

func straightSheet() []sheet {
	return []sheet{{impl.Proto{Regs: 5}, []line{
		{".....", do(impl.ILine, 1)},
		{".....", do(impl.IAt, 0)},
		{".....", do(impl.ITick)},
		{".....", do(impl.IConst, 0, 0)},
		{"v....", do(impl.IMove, 1, 0)},
		{"vv...", do(impl.IMove, 2, -2)},
		{"v.v..", do(impl.IBox, 1, -3)},
		{"vb...", do(impl.IGet, 2, 1)},
		{"vbv..", do(impl.IPut, 1, -3)},
		{"vb...", do(impl.ITable, 2)},
		{"vbv..", do(impl.IRaw, 2, 0, 0)},
		{"vbv..", do(impl.IList, 3)},
		{"vbvl.", do(impl.IAdd, 3, 0)},
		{"vbvl.", do(impl.ICopy, 4, 3)},
		{"vbvll", do(impl.IJoin, 3, -5)},
		{"vbvl.", do(impl.IRawAll, 2, -1, -4)},
		{".bv..", do(impl.IIndex, 0, 2, 2)},
		{"vbv..", do(impl.ISet, -3, 0, -1)},
		{".b...", do(impl.IGet, 0, 1)},
		{"vb...", do(impl.IUnary, 0, impl.OpNot, -1)},
		{"vb...", do(impl.IBinary, 2, impl.OpAdd, 0, -1)},
		{".bv..", do(impl.IDrop, 1)},
		{"..v..", do(impl.IList, 0)},
		{"l.v..", do(impl.IPick, 1, 0, impl.MaxRegs)},
		{"lvv..", do(impl.IFirst, 3, -1)},
		{".vvv.", do(impl.IDrop, 0)},
		{".vvv.", do(impl.IList, 0)},
		{"lvvv.", do(impl.ICall, 0, -2, -1)},
		{"l.vv.", do(impl.ICall, 4, 2, 0)},
		{"l.vvl", do(impl.IBox, 0, 2)},
		{"b.vvl", do(impl.IList, 3)},
		{"b.vll", do(impl.IReturn, -5)},
	}}}
}

func forkSheet() []sheet {
	return []sheet{{impl.Proto{Regs: 3}, []line{
		{"...", do(impl.IConst, 0, 0)},
		{"v..", do(impl.IIf, 0, 4)},
		{"v..", do(impl.IUnless, -1, 6)},
		{"...", do(impl.IJump, 8)},
		{"v..", do(impl.IDrop, 0)},
		{"...", do(impl.IJump, 3)},
		{"...", do(impl.IJump, 3)},
		{"-", do(impl.IMove, 2, 1)},
		{"...", do(impl.IConst, 2, 0)},
		{"..v", do(impl.IThrow, -3)},
		{"-", do(impl.ITick)},
		{"-", do(impl.IJump, 10)},
	}}}
}

func fnSheet() []sheet {
	return []sheet{
		{impl.Proto{Regs: 3, Rest: true}, []line{
			{"l..", do(impl.IConst, 1, 0)},
			{"lv.", do(impl.IBox, 1, -2)},
			{"lb.", do(impl.IFn, 2, 1)},
			{"lbv", do(impl.ICall, 0, 2, -1)},
			{"lbv", do(impl.IReturn, 0)},
		}},
		{impl.Proto{Regs: 5, Params: 2, Rest: true, Ups: []impl.Up{{Local: true, Index: 1}}}, []line{
			{"vvl..", do(impl.IUpGet, 3, 0)},
			{"vvlv.", do(impl.IUpPut, 0, -4)},
			{"vvl..", do(impl.IBox, 3, 1)},
			{"vvlb.", do(impl.IFn, 4, 2)},
			{"vvlbv", do(impl.IReturn, -3)},
		}},
		{impl.Proto{Regs: 1, Params: 1, Ups: []impl.Up{{Index: 0}, {Local: true, Index: 3}, {Local: true, Index: 3}}}, []line{
			{"v", do(impl.IUpGet, 0, 2)},
			{"v", do(impl.IUpPut, 1, -1)},
			{".", do(impl.IList, 0)},
			{"l", do(impl.IReturn, -1)},
		}},
	}
}

func loopSheet() []sheet {
	return []sheet{{impl.Proto{Regs: 4}, []line{
		{"....", do(impl.IConst, 0, 0)},
		{"v...", do(impl.IConst, 1, 0)},
		{"vv..", do(impl.IConst, 2, 0)},
		{"vvv.", do(impl.IFor, 0)},
		{"vvv.", do(impl.IForTest, 0, 9)},
		{"vvv.", do(impl.ITick)},
		{"vvv.", do(impl.IMove, 3, 0)},
		{"vvvv", do(impl.IDrop, 3)},
		{"vvv.", do(impl.IForNext, 0, 5)},
		{"vvv.", do(impl.IList, 3)},
		{"vvvl", do(impl.IReturn, -4)},
	}}}
}

func eachSheet() []sheet {
	return []sheet{{impl.Proto{Regs: 4}, []line{
		{"....", do(impl.IConst, 0, 0)},
		{"v...", do(impl.IEach, 0)},
		{"vv..", do(impl.IEachNext, 0, 6, 2)},
		{"vvl.", do(impl.IFirst, 3, -3)},
		{"vv.v", do(impl.IDrop, 3)},
		{"vv..", do(impl.IJump, 2)},
		{"vv..", do(impl.IList, 3)},
		{"vv.l", do(impl.IEachNext, 0, 8, 3)},
		{"vv.l", do(impl.IReturn, -4)},
	}}}
}

func guardSheet() []sheet {
	return []sheet{{impl.Proto{Regs: 6}, []line{
		{"......", do(impl.IConst, 0, 0)},
		{"v.....", do(impl.IScope, 1)},
		{"v..... d1", do(impl.IConst, 1, 0)},
		{"vv.... d1", do(impl.ITry, 11, 2)},
		{"vv.... d1 t2@11", do(impl.IScope, 6)},
		{"vv.... d1 t2@11 d6", do(impl.IList, 3)},
		{"vv.l.. d1 t2@11 d6", do(impl.IDefer, 0, -4)},
		{"vv.... d1 t2@11 d6", do(impl.IKeep, 2)},
		{"vv.... d1 t2@11 d2", do(impl.ILeave)},
		{"vv.... d1 t2@11", do(impl.IEndTry)},
		{"vv.... d1", do(impl.IJump, 14)},
		{"vvvv.. d1", do(impl.IKeep, 0)},
		{"vvvv.. d0", do(impl.IDrop, 2)},
		{"vv.v.. d0", do(impl.IThrow, -4)},
		{"vv.... d1", do(impl.ILeave)},
		{"vv....", do(impl.IList, 5)},
		{"vv...l", do(impl.IReturn, -6)},
	}}}
}

func handlerSheet() []sheet {
	return []sheet{{impl.Proto{Regs: 6, Rest: true}, []line{
		{"l.....", do(impl.IConst, 1, 0)},
		{"lv....", do(impl.IBox, 2, 1)},
		{"lvb...", do(impl.IList, 3)},
		{"lvbl..", do(impl.IList, 5)},
		{"lvbl.l", do(impl.ITry, 9, 1)},
		{"lvbl.l t1@9", do(impl.ITry, 10, 4)},
		{"lvbl.l t1@9 t4@10", do(impl.IEndTry)},
		{"lvbl.l t1@9", do(impl.IEndTry)},
		{"lvbl.l", do(impl.IReturn, 3)},
		{"lvv...", do(impl.IThrow, -2)},
		{"lvblvv t1@9", do(impl.IReturn, 3)},
	}}}
}

func writtenSheets() map[string][]sheet {
	return map[string][]sheet{
		"straight": straightSheet(), "fork": forkSheet(), "fn": fnSheet(), "loop": loopSheet(),
		"each": eachSheet(), "guard": guardSheet(), "handler": handlerSheet(),
	}
}

func TestStatesAreAsWritten(t *testing.T) {
	for name, sheets := range writtenSheets() {
		holdSheets(t, name, sheets)
	}
}

func holdSheets(t *testing.T, name string, sheets []sheet) {
	t.Helper()
	c := codeOfSheets(sheets)
	if got := impl.CheckShape(c); got != (impl.Fault{}) {
		t.Fatalf("%s: shape %v", name, got)
	}
	if got := impl.CheckCode(c); got != (impl.Fault{}) {
		t.Fatalf("%s: %v", name, got)
	}
	for p, s := range sheets {
		var want []string
		for _, l := range s.lines {
			want = append(want, l.ahead)
		}
		if got := stateTexts(impl.States(c, p)); !slices.Equal(got, want) {
			t.Errorf("%s: proto %d:\n%q, want\n%q", name, p, got, want)
		}
	}
}

func TestWrittenCodesUseEveryInstruction(t *testing.T) {
	var used [impl.ILast + 1]bool
	for _, sheets := range writtenSheets() {
		for _, s := range sheets {
			for _, l := range s.lines {
				used[l.ins.Op] = used[l.ins.Op] || l.ahead != "-"
			}
		}
	}
	for op := 1; op <= impl.ILast; op++ {
		if !used[op] {
			t.Errorf("no written code reaches an instruction %d", op)
		}
	}
}

func TestStatesOfNoProto(t *testing.T) {
	c := codeOfSheets(fnSheet())
	for _, p := range []int{-1, 3, 4, leastInt, mostInt} {
		if got := impl.States(c, p); len(got) != 0 {
			t.Errorf("proto %d: %v", p, got)
		}
	}
	for p := range 3 {
		if got := impl.States(c, p); len(got) != len(c.Protos[p].Ins) {
			t.Errorf("proto %d: %v", p, got)
		}
	}
}

// A fault in one proto leaves no states of any other.
func TestStatesOfAFaultyCode(t *testing.T) {
	spoils := map[string]func(c *impl.Code){
		"shape of the first": func(c *impl.Code) { c.Protos[0].Line = -1 },
		"shape of the last":  func(c *impl.Code) { c.Protos[2].Regs = 0 },
		"type in the first":  func(c *impl.Code) { c.Protos[0].Ins[3] = do(impl.ICall, 0, 1, 0) },
		"type in the last":   func(c *impl.Code) { c.Protos[2].Ins[2] = do(impl.ITable, 0) },
		"round in the last":  func(c *impl.Code) { c.Protos[2].Ins[3] = do(impl.IJump, 3) },
	}
	for name, spoil := range spoils {
		c := codeOfSheets(fnSheet())
		spoil(&c)
		if impl.CheckCode(c) == (impl.Fault{}) {
			t.Errorf("%s: no fault", name)
		}
		for p := range 3 {
			if got := impl.States(c, p); len(got) != 0 {
				t.Errorf("%s: states of proto %d: %v", name, p, got)
			}
		}
	}
	for p := -1; p < 2; p++ {
		if got := impl.States(impl.Code{}, p); len(got) != 0 {
			t.Errorf("no protos: states of proto %d: %v", p, got)
		}
	}
}

func TestStatesAtTheBeginning(t *testing.T) {
	for _, c := range []struct {
		regs, params int
		rest         bool
		want         string
	}{
		{1, 0, false, "."}, {1, 1, false, "v"}, {1, 0, true, "l"}, {2, 1, true, "vl"}, {3, 1, true, "vl."}, {3, 2, false, "vv."}, {4, 3, true, "vvvl"},
	} {
		fn := protoOf(c.regs, append([]impl.Ins{do(impl.ITick)}, ending(c.regs)...)...)
		fn.Params, fn.Rest = c.params, c.rest
		got := impl.States(codeOf(withEnding(1, do(impl.IFn, 0, 1)).Protos[0], fn), 1)
		if len(got) != 3 || stateText(got[0]) != c.want || stateText(got[1]) != c.want {
			t.Errorf("%v: %v", c, stateTexts(got))
		}
	}
	endless := impl.States(textOf(0, do(impl.ITick), do(impl.IJump, 0)), 0)
	if len(endless) != 2 || stateText(endless[0]) != "" || stateText(endless[1]) != "" {
		t.Errorf("a proto without registers: %v", endless)
	}
}
