package tests

import (
	"math"
	"slices"
	"strings"
	"testing"

	"loop.example/punch/impl"
)

// spoilt is a change of a sound code and the fault that it makes; the zero value where it makes none.
type spoilt struct {
	name  string
	spoil func(c *impl.Code)
	want  impl.Fault
}

// soundCode has four protos, each with consts, names and instructions that can be spoilt one by one.
func soundCode() impl.Code {
	c := linked(4)
	c.Protos[0].Ins = slices.Insert(c.Protos[0].Ins, 3, times(2, do(impl.ITick))...)
	for p := range c.Protos {
		if p > 0 {
			c.Protos[p].Ins = slices.Insert(c.Protos[p].Ins, 0, times(5, do(impl.ITick))...)
		}
		c.Protos[p].Consts = []impl.Value{intOf(7), strOf("x"), nilValue()}
		c.Protos[p].Named = []impl.Named{{Name: "a", To: 7}, {Name: "b", From: 7, To: 7}, {Name: "c", From: 1, To: 2}}
	}
	return c
}

func TestSoundCodeHasNoFault(t *testing.T) {
	if got := impl.CheckCode(soundCode()); got != (impl.Fault{}) {
		t.Error(got)
	}
}

func holdSpoilt(t *testing.T, cases []spoilt) {
	t.Helper()
	for _, s := range cases {
		c := soundCode()
		s.spoil(&c)
		if got := impl.CheckShape(c); got != s.want {
			t.Errorf("%s: CheckShape %v, want %v", s.name, got, s.want)
		}
		if got := impl.CheckCode(c); got != s.want {
			t.Errorf("%s: CheckCode %v, want %v", s.name, got, s.want)
		}
		if got := impl.States(c, 0); (len(got) == 0) != (s.want != impl.Fault{}) {
			t.Errorf("%s: States %v", s.name, got)
		}
		if s.want != (impl.Fault{}) {
			holdNothing(t, s.name, c)
		} else if image := impl.Encode(c); !sameCodes(impl.Decode(image), c) || impl.Listing(c) == "" {
			t.Errorf("%s: no image or no listing", s.name)
		}
	}
}

func TestSizes(t *testing.T) {
	whole := func(n int, more ...int) func(c *impl.Code) {
		return func(c *impl.Code) {
			*c = linked(1 + len(more))
			c.Protos[0].Ins = append(times(n-len(c.Protos[0].Ins), do(impl.ITick)), c.Protos[0].Ins...)
			for i, m := range more {
				c.Protos[1+i].Ins = append(times(m-2, do(impl.ITick)), ending(1)...)
			}
		}
	}
	holdSpoilt(t, []spoilt{
		{"no protos", func(c *impl.Code) { c.Protos = nil }, faultOf(1, 0, 0)},
		{"an empty list of protos", func(c *impl.Code) { c.Protos = c.Protos[:0] }, faultOf(1, 0, 0)},
		{"one proto", func(c *impl.Code) { *c = linked(1) }, impl.Fault{}},
		{"MaxProtos", func(c *impl.Code) { *c = linked(impl.MaxProtos) }, impl.Fault{}},
		{"a proto more", func(c *impl.Code) { *c = linked(impl.MaxProtos + 1) }, faultOf(1, 0, 0)},
		{"many protos", func(c *impl.Code) { *c = linked(10 * impl.MaxProtos) }, faultOf(1, 0, 0)},
		{"MaxIns in one", whole(impl.MaxIns), impl.Fault{}},
		{"MaxIns in three", whole(impl.MaxIns-100, 50, 50), impl.Fault{}},
		{"one more in one", whole(impl.MaxIns + 1), faultOf(1, 0, 0)},
		{"one more in three", whole(impl.MaxIns-100, 51, 50), faultOf(1, 0, 0)},
		{"one more, in the last", whole(impl.MaxIns-100, 50, 51), faultOf(1, 0, 0)},
		{"none but in the last", func(c *impl.Code) {
			*c = codeOf(impl.Proto{}, impl.Proto{Ins: times(impl.MaxIns+1, do(impl.ITick))})
		}, faultOf(1, 0, 0)},
	})
}

// setting is a change of one proto.
type setting struct {
	name string
	set  func(p *impl.Proto)
	ok   bool
}

func headSettings() []setting {
	regs := func(n, params int, rest bool) func(p *impl.Proto) {
		return func(p *impl.Proto) { p.Regs, p.Params, p.Rest = n, params, rest }
	}
	line := func(n int) func(p *impl.Proto) { return func(p *impl.Proto) { p.Line = n } }
	consts := func(n int) func(p *impl.Proto) {
		return func(p *impl.Proto) { p.Consts = slices.Repeat([]impl.Value{intOf(1)}, n) }
	}
	return []setting{
		{"no name", func(p *impl.Proto) { p.Name = "" }, true},
		{"MaxName", func(p *impl.Proto) { p.Name = strings.Repeat("n", impl.MaxName) }, true},
		{"MaxName of bytes that are no letters", func(p *impl.Proto) { p.Name = strings.Repeat("\xff", impl.MaxName) }, true},
		{"MaxName in runes, not bytes", func(p *impl.Proto) { p.Name = strings.Repeat("\u00e9", impl.MaxName/2) + "n" }, false},
		{"a long name", func(p *impl.Proto) { p.Name = strings.Repeat("n", impl.MaxName+1) }, false},
		{"line 0", line(0), true}, {"MaxLine", line(impl.MaxLine), true}, {"line -1", line(-1), false}, {"past MaxLine", line(impl.MaxLine + 1), false},
		{"the least line", line(leastInt), false}, {"the greatest line", line(mostInt), false},
		{"MaxRegs", regs(impl.MaxRegs, 0, false), true}, {"past MaxRegs", regs(impl.MaxRegs+1, 0, false), false}, {"regs -1", regs(-1, 0, false), false},
		{"regs -1 and params -1", regs(-1, -1, false), false}, {"regs -1 and rest", regs(-1, -2, true), false},
		{"the least regs", regs(leastInt, 0, false), false}, {"the least regs and rest", regs(leastInt, 0, true), false}, {"the greatest regs", regs(mostInt, 0, false), false},
		{"params -1", regs(3, -1, false), false}, {"params -1 and rest", regs(3, -1, true), false}, {"the least params", regs(3, leastInt, false), false},
		{"the greatest params", regs(3, mostInt, false), false}, {"the greatest params and rest", regs(3, mostInt, true), false},
		{"params above regs", regs(3, 4, false), false}, {"rest with params as regs", regs(3, 3, true), false}, {"rest alone", regs(1, 0, true), true},
		{"MaxConsts", consts(impl.MaxConsts), true}, {"past MaxConsts", consts(impl.MaxConsts + 1), false},
	}
}

func TestHeads(t *testing.T) {
	var cases []spoilt
	for _, s := range headSettings() {
		for p := range 4 {
			want := impl.Fault{}
			if !s.ok {
				want = faultOf(2, p, 0)
			}
			cases = append(cases, spoilt{s.name, func(c *impl.Code) { s.set(&c.Protos[p]) }, want})
		}
	}
	holdSpoilt(t, cases)
}

func TestParamsAndUps(t *testing.T) {
	set := func(p int, change func(p *impl.Proto)) func(c *impl.Code) {
		return func(c *impl.Code) { change(&c.Protos[p]) }
	}
	params := func(n, regs int, rest bool) func(p *impl.Proto) {
		return func(p *impl.Proto) { p.Params, p.Regs, p.Rest = n, regs, rest }
	}
	ups := func(n int) func(c *impl.Code) {
		return func(c *impl.Code) {
			c.Protos[2].Ups = slices.Repeat([]impl.Up{{Local: true}}, n)
			c.Protos[0].Ins = slices.Insert(c.Protos[0].Ins, 0, do(impl.IConst, 0, 0), do(impl.IBox, 0, -1))
			c.Protos[0].Ins[2].A = 1
			c.Protos[0].Regs = 2
		}
	}
	holdSpoilt(t, []spoilt{
		{"params as regs", set(1, params(3, 3, false)), impl.Fault{}},
		{"rest and params below regs", set(1, params(2, 3, true)), impl.Fault{}},
		{"MaxRegs params", set(1, params(impl.MaxRegs, impl.MaxRegs, false)), impl.Fault{}},
		{"MaxRegs params and rest", set(1, params(impl.MaxRegs, impl.MaxRegs, true)), faultOf(2, 1, 0)},
		{"rest of the text", set(0, params(0, 1, true)), impl.Fault{}},
		{"a param of the text", set(0, params(1, 1, false)), faultOf(2, 0, 0)},
		{"a param and rest of the text", set(0, params(1, 2, true)), faultOf(2, 0, 0)},
		{"an up of the text", set(0, func(p *impl.Proto) { p.Ups = []impl.Up{{}} }), faultOf(2, 0, 0)},
		{"an empty list of ups of the text", set(0, func(p *impl.Proto) { p.Ups = []impl.Up{} }), impl.Fault{}},
		{"MaxRegs ups", ups(impl.MaxRegs), impl.Fault{}},
		{"an up more", ups(impl.MaxRegs + 1), faultOf(2, 2, 0)},
	})
}

// A proto without registers can be sound when it needs none.
func TestNoRegisters(t *testing.T) {
	round := []impl.Ins{do(impl.ITick), do(impl.IJump, 0)}
	if got := impl.CheckCode(codeOf(impl.Proto{Ins: round})); got != (impl.Fault{}) {
		t.Errorf("no registers: %v", got)
	}
	if got := impl.CheckCode(codeOf(impl.Proto{Ins: round, Rest: true})); got != faultOf(2, 0, 0) {
		t.Errorf("no register for rest: %v", got)
	}
	for _, ins := range []impl.Ins{do(impl.IList, 0), do(impl.IReturn, -1), do(impl.IFor, 0), do(impl.IFor, -1), do(impl.IEach, 0), do(impl.IEach, -1), do(impl.ITry, 0, 0), do(impl.ITry, 0, -1), do(impl.IKeep, 1), do(impl.IScope, -1)} {
		if got := impl.CheckShape(codeOf(impl.Proto{Ins: append([]impl.Ins{ins}, round...)})); got != faultOf(5, 0, 0) {
			t.Errorf("no registers: %v: %v", ins, got)
		}
	}
	if got := impl.CheckCode(codeOf(impl.Proto{Ins: []impl.Ins{do(impl.IScope, 0), do(impl.IKeep, 0), do(impl.ILeave), do(impl.ITick), do(impl.IJump, 0)}})); got != (impl.Fault{}) {
		t.Errorf("a keep of no registers: %v", got)
	}
}

func TestConsts(t *testing.T) {
	good := []impl.Value{
		nilValue(), boolOf(true), boolOf(false), intOf(leastInt), intOf(mostInt), fltOf(0), fltOf(minusZero), fltOf(inf), fltOf(-inf), fltOf(5e-324),
		strOf(""), longStr(impl.MaxStr), builtinOf(0), builtinOf(impl.Builtins - 1),
	}
	bad := append(badValues(),
		refOf(impl.KTable, 0), refOf(impl.KFn, 0), refOf(impl.KTask, 0), refOf(impl.KTable, 7), refOf(impl.KFn, 7), refOf(impl.KTask, 7), fltOf(nan), fltOf(-nan),
		fltOf(math.Float64frombits(0x7ff0000000000001)), fltOf(math.Float64frombits(0xffffffffffffffff)))
	for _, v := range good {
		if v.Kind != impl.KFlt {
			v.Flt = minusZero
			bad = append(bad, v)
		}
	}
	set := func(p, i int, v impl.Value) func(c *impl.Code) {
		return func(c *impl.Code) { c.Protos[p].Consts[i] = v }
	}
	var cases []spoilt
	for p := range 4 {
		for i := range 3 {
			for _, v := range good {
				cases = append(cases, spoilt{"const " + impl.Text(short(v)), set(p, i, v), impl.Fault{}})
			}
			for _, v := range bad {
				cases = append(cases, spoilt{"bad const " + impl.Text(short(v)), set(p, i, v), faultOf(3, p, i)})
			}
		}
	}
	holdSpoilt(t, cases)
}

func TestNamed(t *testing.T) {
	var cases []spoilt
	add := func(name string, n impl.Named, ok bool) {
		for p := range 4 {
			for i := range 3 {
				want := impl.Fault{}
				if !ok {
					want = faultOf(4, p, i)
				}
				cases = append(cases, spoilt{name, func(c *impl.Code) {
					c.Protos[p].Regs = 3
					c.Protos[p].Named[i] = n
				}, want})
			}
		}
	}
	add("an empty name", impl.Named{}, false)
	add("a name of one byte", impl.Named{Name: "\x00"}, true)
	add("MaxName", impl.Named{Name: strings.Repeat("n", impl.MaxName)}, true)
	add("a long name", impl.Named{Name: strings.Repeat("n", impl.MaxName+1)}, false)
	for _, reg := range []int{-1, 3, leastInt, mostInt} {
		add("no register", impl.Named{Name: "a", Reg: reg}, false)
	}
	add("the last register", impl.Named{Name: "a", Reg: 2}, true)
	for _, part := range [][2]int{{0, 0}, {0, 7}, {7, 7}, {3, 3}, {3, 4}} {
		add("a part", impl.Named{Name: "a", From: part[0], To: part[1]}, true)
	}
	for _, part := range [][2]int{{-1, 0}, {-1, -1}, {0, -1}, {1, 0}, {0, 8}, {8, 8}, {7, 8}, {8, 7}, {leastInt, 0}, {leastInt, leastInt}, {0, mostInt}, {mostInt, mostInt}, {mostInt, 0}, {leastInt, mostInt}} {
		add("no part", impl.Named{Name: "a", From: part[0], To: part[1]}, false)
	}
	many := func(n int) func(c *impl.Code) {
		return func(c *impl.Code) { c.Protos[1].Named = slices.Repeat([]impl.Named{{Name: "a"}}, n) }
	}
	cases = append(cases,
		spoilt{"MaxConsts names", many(impl.MaxConsts), impl.Fault{}},
		spoilt{"a name more", many(impl.MaxConsts + 1), faultOf(4, 1, impl.MaxConsts)},
		spoilt{"many names more", many(3 * impl.MaxConsts), faultOf(4, 1, impl.MaxConsts)},
		spoilt{"a bad one ahead of one more", func(c *impl.Code) {
			many(impl.MaxConsts + 1)(c)
			c.Protos[1].Named[impl.MaxConsts-1].Reg = 1
		}, faultOf(4, 1, impl.MaxConsts-1)},
		spoilt{"a bad one behind one more", func(c *impl.Code) {
			many(impl.MaxConsts + 2)(c)
			c.Protos[1].Named[impl.MaxConsts+1].Reg = 1
		}, faultOf(4, 1, impl.MaxConsts)},
		spoilt{"a register of a proto without any", func(c *impl.Code) {
			c.Protos[1] = impl.Proto{Ins: []impl.Ins{do(impl.ITick), do(impl.IJump, 0)}, Named: []impl.Named{{Name: "a"}}}
		}, faultOf(4, 1, 0)},
	)
	holdSpoilt(t, cases)
}

// span is the least and the greatest number that a field may have.
type span struct{ least, most int }

// fieldSpans are those of each instruction in a proto with 5 registers, 2 ups, 3 consts and 7 instructions, in a code with 4 protos.
func fieldSpans() map[int][]span {
	place, operand, pair, triple := span{0, 4}, span{-5, 4}, span{0, 3}, span{0, 2}
	konst, up, proto, ins, keep := span{0, 2}, span{0, 1}, span{0, 3}, span{0, 6}, span{0, 5}
	return map[int][]span{
		impl.ILine:     {{1, 100000}},
		impl.IAt:       {{0, 100000}},
		impl.ITick:     {},
		impl.IConst:    {place, konst},
		impl.IMove:     {place, operand},
		impl.IBox:      {place, operand},
		impl.IGet:      {place, place},
		impl.IPut:      {place, operand},
		impl.IUpGet:    {place, up},
		impl.IUpPut:    {up, operand},
		impl.IFn:       {place, proto},
		impl.ITable:    {place},
		impl.IRaw:      {place, operand, operand},
		impl.IRawAll:   {place, operand, operand},
		impl.IIndex:    {place, operand, operand},
		impl.ISet:      {operand, operand, operand},
		impl.IUnary:    {place, {19, 22}, operand},
		impl.IBinary:   {place, {1, 18}, operand, operand},
		impl.IJump:     {ins},
		impl.IIf:       {operand, ins},
		impl.IUnless:   {operand, ins},
		impl.IList:     {place},
		impl.IAdd:      {place, operand},
		impl.IJoin:     {place, operand},
		impl.IFirst:    {place, operand},
		impl.IPick:     {place, place, {0, 250}},
		impl.ICopy:     {place, place},
		impl.ICall:     {place, operand, operand},
		impl.IReturn:   {operand},
		impl.IThrow:    {operand},
		impl.ITry:      {ins, pair},
		impl.IEndTry:   {},
		impl.IScope:    {keep},
		impl.IKeep:     {keep},
		impl.IDefer:    {operand, operand},
		impl.ILeave:    {},
		impl.IFor:      {triple},
		impl.IForTest:  {triple, ins},
		impl.IForNext:  {triple, ins},
		impl.IEach:     {pair},
		impl.IEachNext: {pair, ins, place},
		impl.IDrop:     {place},
	}
}

// fieldCode has an instruction as number 3 of proto 1, of the sizes that fieldSpans tells.
func fieldCode(ins impl.Ins) impl.Code {
	c := linked(4)
	c.Protos[0].Regs = 2
	fn := &c.Protos[1]
	fn.Regs, fn.Ups, fn.Consts = 5, []impl.Up{{Local: true, Index: 0}, {Local: true, Index: 1}}, []impl.Value{intOf(1), intOf(2), intOf(3)}
	fn.Ins = append(times(6, do(impl.ITick)), do(impl.IReturn, 0))
	fn.Ins[3] = ins
	return c
}

func TestFieldsOfInstructions(t *testing.T) {
	for op, used := range fieldSpans() {
		least := [4]int{}
		spans := [4]span{}
		for i, s := range used {
			least[i], spans[i] = s.least, s
		}
		sound := impl.Fault{}
		if op == impl.IFn {
			sound = faultOf(6, 1, 3)
		}
		for i, s := range spans {
			for _, x := range []int{s.least, s.most, 0, s.least - 1, s.most + 1, leastInt, mostInt, leastInt + 1, 1 << 32, -(1 << 32)} {
				fields := least
				fields[i] = x
				want := sound
				if x < s.least || x > s.most {
					want = faultOf(5, 1, 3)
				}
				ins := do(op, fields[:]...)
				if got := impl.CheckShape(fieldCode(ins)); got != want {
					t.Errorf("%v: %v, want %v", ins, got, want)
				}
			}
		}
	}
	for _, op := range []int{0, -1, impl.ILast + 1, leastInt, mostInt, 256 + impl.ITick} {
		if got := impl.CheckShape(fieldCode(do(op))); got != faultOf(5, 1, 3) {
			t.Errorf("Op %d: %v", op, got)
		}
	}
}

func TestLastInstruction(t *testing.T) {
	for op, used := range fieldSpans() {
		fields := []int{}
		for _, s := range used {
			fields = append(fields, s.least)
		}
		c := fieldCode(do(impl.ITick))
		c.Protos[1].Ins[6] = do(op, fields...)
		want := faultOf(5, 1, 6)
		if op == impl.IJump || op == impl.IReturn || op == impl.IThrow {
			want = impl.Fault{}
		}
		if got := impl.CheckShape(c); got != want {
			t.Errorf("last is %d: %v, want %v", op, got, want)
		}
	}
	for p := range 4 {
		holdSpoilt(t, []spoilt{
			{"no instructions", func(c *impl.Code) { c.Protos[p].Ins, c.Protos[p].Named = nil, nil }, faultOf(5, p, 0)},
			{"an empty list of instructions", func(c *impl.Code) { c.Protos[p].Ins, c.Protos[p].Named = []impl.Ins{}, nil }, faultOf(5, p, 0)},
			{"one that goes on", func(c *impl.Code) { c.Protos[p].Ins, c.Protos[p].Named = times(1, do(impl.ITick)), nil }, faultOf(5, p, 0)},
		})
	}
}

func TestFns(t *testing.T) {
	ups := func(p int, ups ...impl.Up) func(c *impl.Code) {
		return func(c *impl.Code) {
			c.Protos[p].Ups = ups
			c.Protos[1].Ins[4], c.Protos[0].Ins[1] = do(impl.IFn, 0, 2), do(impl.ITick)
		}
	}
	local := func(i int) impl.Up { return impl.Up{Local: true, Index: i} }
	fn := func(p, at, b int) func(c *impl.Code) {
		return func(c *impl.Code) { c.Protos[p].Ins[at] = do(impl.IFn, 0, b) }
	}
	holdSpoilt(t, []spoilt{
		{"a fn of the text", fn(0, 3, 0), faultOf(6, 0, 3)},
		{"a fn of its own proto", fn(2, 1, 2), faultOf(6, 2, 1)},
		{"a fn of a proto before it", fn(2, 1, 1), faultOf(6, 2, 1)},
		{"a fn for the second time in one proto", fn(0, 4, 3), faultOf(6, 0, 4)},
		{"a fn for the second time in a later proto", fn(1, 2, 3), faultOf(6, 1, 2)},
		{"a fn for the second time ahead of the first", fn(0, 0, 2), faultOf(6, 0, 1)},
		{"no fn of 1", func(c *impl.Code) { c.Protos[0].Ins[0] = do(impl.ITick) }, faultOf(7, 1, 0)},
		{"no fn of the last", func(c *impl.Code) { c.Protos[0].Ins[2] = do(impl.ITick) }, faultOf(7, 3, 0)},
		{"no fn of 1 and 3", func(c *impl.Code) { c.Protos[0].Ins[0], c.Protos[0].Ins[2] = do(impl.ITick), do(impl.ITick) }, faultOf(7, 1, 0)},
		{"a fn in another proto", func(c *impl.Code) { c.Protos[0].Ins[2], c.Protos[2].Ins[1] = do(impl.ITick), do(impl.IFn, 0, 3) }, impl.Fault{}},
		{"a fn where it is never reached", func(c *impl.Code) {
			c.Protos[0].Ins[2] = do(impl.ITick)
			c.Protos[2].Ins = append(c.Protos[2].Ins, do(impl.IFn, 0, 3), do(impl.IThrow, 0))
		}, impl.Fault{}},
		{"no ups of one without any", ups(2), impl.Fault{}},
		{"an up of one without any", ups(2, impl.Up{}), faultOf(6, 1, 4)},
		{"an up above the registers", ups(2, local(1)), faultOf(6, 1, 4)},
		{"an up below the registers", ups(2, local(-1)), faultOf(6, 1, 4)},
		{"an up far above", ups(2, local(mostInt)), faultOf(6, 1, 4)},
		{"an up far below", ups(2, local(leastInt)), faultOf(6, 1, 4)},
		{"an up of the text that is no register", func(c *impl.Code) { c.Protos[3].Ups = []impl.Up{local(1)} }, faultOf(6, 0, 2)},
		{"an up of the text that is not local", func(c *impl.Code) { c.Protos[3].Ups = []impl.Up{{}} }, faultOf(6, 0, 2)},
	})
}

func TestUpsOfUps(t *testing.T) {
	boxed := []impl.Ins{do(impl.IConst, 0, 0), do(impl.IBox, 0, -1)}
	code := func(ups ...impl.Up) impl.Code {
		c := codeOf(withEnding(2, append(slices.Clone(boxed), do(impl.IFn, 1, 1))...).Protos[0], withEnding(2, append(slices.Clone(boxed), do(impl.IFn, 1, 2))...).Protos[0], plainFn())
		c.Protos[1].Ups = []impl.Up{{Local: true}, {Local: true}, {Local: true}}
		c.Protos[2].Ups = ups
		return c
	}
	for _, c := range []struct {
		ups  []impl.Up
		want impl.Fault
	}{
		{[]impl.Up{{Index: 0}, {Index: 2}, {Local: true, Index: 0}}, impl.Fault{}},
		{[]impl.Up{{Index: 0}, {Index: 3}}, faultOf(6, 1, 2)},
		{[]impl.Up{{Index: -1}}, faultOf(6, 1, 2)},
		{[]impl.Up{{Index: mostInt}}, faultOf(6, 1, 2)},
		{[]impl.Up{{Index: leastInt}}, faultOf(6, 1, 2)},
		{[]impl.Up{{Local: true, Index: 2}}, faultOf(6, 1, 2)},
		{[]impl.Up{{Local: true, Index: 1}}, faultOf(10, 1, 2)},
	} {
		if got := impl.CheckCode(code(c.ups...)); got != c.want {
			t.Errorf("%v: %v, want %v", c.ups, got, c.want)
		}
	}
}

// orderSpoils are faults that can be made in one code beside each other.
func orderSpoils() []spoilt {
	out := []spoilt{
		{"many protos", func(c *impl.Code) { c.Protos = append(c.Protos, make([]impl.Proto, impl.MaxProtos)...) }, faultOf(1, 0, 0)},
		{"a fn of the text", func(c *impl.Code) { c.Protos[0].Ins[0].B = 0 }, faultOf(6, 0, 0)},
		{"no fn of 2", func(c *impl.Code) { c.Protos[0].Ins[1] = do(impl.ITick) }, faultOf(7, 2, 0)},
		{"no fn of 3", func(c *impl.Code) { c.Protos[0].Ins[2] = do(impl.ITick) }, faultOf(7, 3, 0)},
	}
	for p := range 4 {
		out = append(out, spoilt{"a line", func(c *impl.Code) { c.Protos[p].Line = -1 }, faultOf(2, p, 0)})
		for i := range 3 {
			out = append(out,
				spoilt{"a const", func(c *impl.Code) { c.Protos[p].Consts[i].Kind = -1 }, faultOf(3, p, i)},
				spoilt{"a name", func(c *impl.Code) { c.Protos[p].Named[i].From = -1 }, faultOf(4, p, i)})
		}
		for _, i := range []int{5, 6} {
			out = append(out, spoilt{"an instruction", func(c *impl.Code) { c.Protos[p].Ins[i].D = 1 }, faultOf(5, p, i)})
		}
		for _, i := range []int{3, 4} {
			out = append(out, spoilt{"a fn", func(c *impl.Code) { c.Protos[p].Ins[i] = do(impl.IFn, 0, p) }, faultOf(6, p, i)})
		}
	}
	return out
}

func before(a, b impl.Fault) bool {
	if a.Code != b.Code {
		return a.Code < b.Code
	}
	if a.Proto != b.Proto {
		return a.Proto < b.Proto
	}
	return a.At < b.At
}

func TestFirstOfTwoFaultsOfShape(t *testing.T) {
	all := orderSpoils()
	for _, a := range all {
		for _, b := range all {
			c := soundCode()
			a.spoil(&c)
			b.spoil(&c)
			want := a.want
			if before(b.want, a.want) {
				want = b.want
			}
			if got := impl.CheckShape(c); got != want {
				t.Errorf("%s %v and %s %v: %v", a.name, a.want, b.name, b.want, got)
			}
			if got := impl.CheckCode(c); got != want {
				t.Errorf("%s %v and %s %v: CheckCode %v", a.name, a.want, b.name, b.want, got)
			}
		}
	}
}

// A fault of the shape is told ahead of what the verifier would find, in whatever proto it is.
func TestShapeComesAheadOfTheVerifier(t *testing.T) {
	c := soundCode()
	c.Protos[0].Ins[3] = do(impl.IEndTry)
	if got := impl.CheckCode(c); got != faultOf(11, 0, 3) {
		t.Fatal(got)
	}
	if got := impl.CheckShape(c); got != (impl.Fault{}) {
		t.Error(got)
	}
	for _, s := range orderSpoils() {
		c := soundCode()
		s.spoil(&c)
		c.Protos[0].Ins[3] = do(impl.IEndTry)
		if got := impl.CheckCode(c); got != s.want && s.want != faultOf(6, 0, 3) {
			t.Errorf("%s: %v, want %v", s.name, got, s.want)
		}
	}
}
