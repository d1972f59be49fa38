package tests

import (
	"fmt"
	"iter"
	"slices"
	"strings"

	"loop.example/punch/impl"
)

// The model is a second stepper, for the tests alone: what leaves a call is a panic, a task is a coroutine, lists are never changed in place, tables are those of chapter 2, and what is reached is looked for over and over until nothing new is found.

type modelRun struct {
	code   impl.Code
	in     impl.Input
	report impl.Report
	views  []impl.View // one a record
	tables []*modelTable
	fns    []modelFn
	tasks  []*modelTask
	now    *modelTask
	lines  []string
	lives  int
	since  int
}

type modelTable struct {
	table impl.Table
	kind  impl.Value
	wants bool
}

type modelFn struct {
	proto int
	boxes []*impl.Value
}

type modelTask struct {
	number  int
	state   string
	fn      impl.Value
	frames  []*modelFrame
	waiter  *modelTask
	next    func() (int, bool)
	stop    func()
	pause   func(int) bool
	given   []impl.Value // what it is resumed with, and what it gives
	giving  bool
	dropped []impl.Value // the value and the trace of the last error, none before the first
	words   []impl.Value // tables and fns by turns
}

type modelFrame struct {
	fn     impl.Value
	proto  int
	at     int
	line   int
	regs   []any // nil, an impl.Value, a *impl.Value or a []impl.Value
	guards []*modelGuard
	onWay  []impl.Value
	below  int // names of registers from here on are not shown
}

type modelGuard struct {
	try     bool
	keep    int
	handler int
	line    int
	defers  []modelDefer
}

type modelDefer struct {
	fn   impl.Value
	args []impl.Value
	line int
}

// What leaves a call.
type (
	modelThrow  struct{ value, trace impl.Value }
	modelReturn struct{ list []impl.Value }
	modelGone   struct{}
	modelOver   struct{}
)

func modelReport(c impl.Code, in impl.Input) impl.Report {
	report, _ := modelLooks(c, in)
	return report
}

// modelLooks is the Report, and the View at each of its records.
func modelLooks(c impl.Code, in impl.Input) (impl.Report, []impl.View) {
	if impl.CheckCode(c) != (impl.Fault{}) || !impl.InputOk(in) {
		return impl.Report{Code: 3}, nil
	}
	m := &modelRun{code: c, in: in, lines: in.Lines}
	m.now = &modelTask{state: "running"}
	m.tasks = append(m.tasks, m.now)
	out := modelTry(func() {
		var args []impl.Value
		for _, a := range in.Args {
			args = append(args, strOf(a))
		}
		m.enter(impl.Value{}, modelFn{}, args)
		m.run()
	})
	switch way := out.(type) {
	case modelReturn:
		for _, v := range way.list {
			m.report.Vals = append(m.report.Vals, impl.Text(v))
		}
	case modelThrow:
		m.report.Code, m.report.Error, m.report.Trace = 1, m.told(way.value), way.trace.Str
	default:
		m.report.Code = 2
	}
	for _, t := range m.tasks {
		if t.stop != nil {
			modelTry(t.stop)
		}
	}
	return m.report, m.views
}

// modelTry answers what leaves a function, nil when nothing does.
func modelTry(f func()) (out any) {
	defer func() {
		out = recover()
		switch out.(type) {
		case nil, modelThrow, modelReturn, modelGone, modelOver:
		default:
			panic(out)
		}
	}()
	f()
	return nil
}

func (m *modelRun) frame() *modelFrame {
	if n := len(m.now.frames); n > 0 {
		return m.now.frames[n-1]
	}
	return &modelFrame{}
}

func (m *modelRun) tick() {
	if m.report.Ticks >= m.in.Ticks {
		panic(modelOver{})
	}
	m.report.Ticks++
}

func (m *modelRun) rec(kind, fn, line int, text string) {
	if len(m.report.Recs) >= impl.MaxRecs {
		panic(modelOver{})
	}
	m.report.Recs = append(m.report.Recs, impl.Rec{Kind: kind, Task: m.now.number, Fn: fn, Line: line, Text: text})
	m.views = append(m.views, m.view())
}

func (m *modelRun) view() impl.View {
	v := impl.View{Ok: true, Task: m.now.number}
	for i := len(m.now.frames) - 1; i >= 0; i-- {
		f := m.now.frames[i]
		open := impl.Open{Fn: f.proto, Line: f.line}
		for _, n := range m.code.Protos[f.proto].Named {
			if n.From <= f.at && f.at < n.To && n.Reg < f.below {
				switch held := f.regs[n.Reg].(type) {
				case impl.Value:
					open.Vars = append(open.Vars, impl.Shown{Name: n.Name, Text: impl.Text(held)})
				case *impl.Value:
					open.Vars = append(open.Vars, impl.Shown{Name: n.Name, Text: impl.Text(*held)})
				}
			}
		}
		v.Calls = append(v.Calls, open)
	}
	return v
}

func (m *modelRun) get(v, k impl.Value) impl.Value {
	if v.Kind != impl.KTable {
		return impl.Value{}
	}
	return impl.Get(m.tables[v.Ref].table, k)
}

func (m *modelRun) handler(v impl.Value, name string) impl.Value {
	if v.Kind != impl.KTable {
		return impl.Value{}
	}
	return m.get(m.tables[v.Ref].kind, strOf(name))
}

func (m *modelRun) told(v impl.Value) string {
	if code := m.get(v, strOf("code")); code.Kind == impl.KInt {
		return fmt.Sprint("error ", code.Num)
	}
	return impl.Text(v)
}

func (m *modelRun) throw(v impl.Value) {
	var trace []string
	for i := len(m.now.frames) - 1; i >= 0; i-- {
		f := m.now.frames[i]
		name := m.code.Protos[f.proto].Name
		if name == "" {
			name = "fn"
		}
		trace = append(trace, fmt.Sprint(name, ":", f.line))
	}
	m.rec(impl.RecThrow, m.frame().proto, m.frame().line, m.told(v))
	panic(modelThrow{v, strOf(strings.Join(trace, " "))})
}

func (m *modelRun) fail(code int) {
	t := impl.Put(impl.Put(impl.Table{}, strOf("code"), intOf(int64(code))), strOf("line"), intOf(int64(m.frame().line)))
	m.tables = append(m.tables, &modelTable{table: t})
	m.throw(refOf(impl.KTable, len(m.tables)-1))
}

func (m *modelRun) failIf(wrong bool, code int) {
	if wrong {
		m.fail(code)
	}
}

func (m *modelRun) spend(n int) {
	m.failIf(m.lives+m.since+n > m.in.Cells, impl.ErrCells)
	m.since += n
	m.report.Made += n
}

func (m *modelRun) enter(callee impl.Value, fn modelFn, args []impl.Value) {
	p := m.code.Protos[fn.proto]
	f := &modelFrame{fn: callee, proto: fn.proto, regs: make([]any, p.Regs), below: p.Regs}
	args = slices.Clone(args)
	for i := range p.Params {
		f.regs[i] = impl.Value{}
		if i < len(args) {
			f.regs[i] = args[i]
		}
	}
	if p.Rest {
		f.regs[p.Params] = args[min(len(args), p.Params):]
	}
	m.now.frames = append(m.now.frames, f)
}

func (m *modelRun) call(callee impl.Value, args []impl.Value) []impl.Value {
	for chain := 1; ; chain++ {
		m.tick()
		if callee.Kind == impl.KFn {
			return m.callFn(callee, args)
		}
		if callee.Kind == impl.KBuiltin {
			return m.builtin(int(callee.Num), args)
		}
		h := m.handler(callee, "call")
		m.failIf(h.Kind == impl.KNil, impl.ErrCall)
		m.failIf(chain > impl.MaxChain, impl.ErrLoop)
		callee, args = h, append([]impl.Value{callee}, args...)
	}
}

func (m *modelRun) first(callee impl.Value, args ...impl.Value) impl.Value {
	return append(slices.Clone(m.call(callee, args)), impl.Value{})[0]
}

func (m *modelRun) callFn(callee impl.Value, args []impl.Value) []impl.Value {
	open := 0
	for t := m.now; t != nil; t = t.waiter {
		open += len(t.frames)
	}
	m.failIf(open >= m.in.Depth, impl.ErrDepth)
	fn := m.fns[callee.Ref]
	m.enter(callee, fn, args)
	m.rec(impl.RecCall, fn.proto, m.code.Protos[fn.proto].Line, m.code.Protos[fn.proto].Name)
	out := modelTry(m.run)
	end := func(how string) {
		f := m.frame()
		f.line, f.below = 0, m.code.Protos[fn.proto].Params
		m.rec(impl.RecBack, fn.proto, 0, how)
		m.now.frames = m.now.frames[:len(m.now.frames)-1]
	}
	switch way := out.(type) {
	case modelReturn:
		end("")
		return way.list
	case modelThrow:
		end("error")
	case modelGone:
		end("gone")
	}
	panic(out)
}

// run panics with what leaves the innermost call.
func (m *modelRun) run() {
	f := m.frame()
	for {
		out := modelTry(func() {
			ins := m.code.Protos[f.proto].Ins[f.at]
			to := m.step(f, ins)
			if to < 0 {
				to = f.at + 1
			}
			f.at = to
		})
		if out != nil {
			m.leave(f, out)
		}
	}
}

// leave panics unless something was caught.
func (m *modelRun) leave(f *modelFrame, out any) {
	for len(f.guards) > 0 && out != (modelOver{}) {
		g := f.guards[len(f.guards)-1]
		f.below = g.keep
		if !g.try {
			clear(f.regs[g.keep:])
			out = m.defers(f, g, out)
			continue
		}
		f.guards = f.guards[:len(f.guards)-1]
		if thrown, ok := out.(modelThrow); ok {
			clear(f.regs[g.keep:])
			f.line, f.at = g.line, g.handler
			m.rec(impl.RecCatch, f.proto, f.line, m.told(thrown.value))
			f.regs[g.keep], f.regs[g.keep+1] = thrown.value, thrown.trace
			f.below = len(f.regs)
			return
		}
	}
	panic(out)
}

// defers answers what is on its way when the guard is off.
func (m *modelRun) defers(f *modelFrame, g *modelGuard, out any) any {
	for len(g.defers) > 0 {
		d := g.defers[len(g.defers)-1]
		g.defers = g.defers[:len(g.defers)-1]
		switch way := out.(type) {
		case modelThrow:
			f.onWay = []impl.Value{way.value}
		case modelReturn:
			f.onWay = way.list
		}
		line := f.line
		f.line = d.line
		left := modelTry(func() { m.call(d.fn, d.args) })
		f.line, f.onWay = line, nil
		if left == nil {
			continue
		}
		if left == (modelOver{}) {
			return left
		}
		clear(f.regs[g.keep:])
		f.below = g.keep
		thrown, isThrown := left.(modelThrow)
		if out == (modelGone{}) && isThrown {
			m.now.dropped = []impl.Value{thrown.value, thrown.trace}
		} else {
			out = left
		}
	}
	f.guards = f.guards[:len(f.guards)-1]
	return out
}

// operand reads a register.
func (f *modelFrame) operand(x int) any {
	if x >= 0 {
		return f.regs[x]
	}
	held := f.regs[-1-x]
	f.regs[-1-x] = nil
	return held
}

func (f *modelFrame) value(x int) impl.Value { return f.operand(x).(impl.Value) }

func (f *modelFrame) list(x int) []impl.Value { return f.operand(x).([]impl.Value) }

// step answers where to go on, below 0 for the next instruction.
func (m *modelRun) step(f *modelFrame, i impl.Ins) int {
	switch {
	case i.Op <= impl.ITick:
		if i.Op != impl.IAt {
			m.tick()
		}
		if i.Op != impl.ITick {
			f.line = i.A
		}
		if i.Op == impl.ILine {
			m.rec(impl.RecLine, f.proto, f.line, "")
		}
	case i.Op <= impl.IFn:
		m.stepStore(f, i)
	case i.Op <= impl.IBinary:
		m.stepTables(f, i)
	case i.Op <= impl.IUnless:
		return m.stepJump(f, i)
	case i.Op <= impl.ICopy:
		m.stepLists(f, i)
	case i.Op <= impl.ILeave:
		m.stepCalls(f, i)
	case i.Op == impl.IDrop:
		f.regs[i.A] = nil
	default:
		return m.stepLoops(f, i)
	}
	return -1
}

func (m *modelRun) boxOf(f *modelFrame, up impl.Up) *impl.Value {
	if up.Local {
		return f.regs[up.Index].(*impl.Value)
	}
	return m.fns[f.fn.Ref].boxes[up.Index]
}

func (m *modelRun) stepStore(f *modelFrame, i impl.Ins) {
	switch i.Op {
	case impl.IConst:
		f.regs[i.A] = m.code.Protos[f.proto].Consts[i.B]
	case impl.IMove:
		f.regs[i.A] = f.value(i.B)
	case impl.IBox:
		v := f.value(i.B)
		f.regs[i.A] = &v
	case impl.IGet:
		f.regs[i.A] = *f.regs[i.B].(*impl.Value)
	case impl.IPut:
		*f.regs[i.A].(*impl.Value) = f.value(i.B)
	case impl.IUpGet:
		f.regs[i.A] = *m.boxOf(f, impl.Up{Index: i.B})
	case impl.IUpPut:
		*m.boxOf(f, impl.Up{Index: i.A}) = f.value(i.B)
	case impl.IFn:
		ups := m.code.Protos[i.B].Ups
		m.spend(1 + len(ups))
		fn := modelFn{proto: i.B}
		for _, up := range ups {
			fn.boxes = append(fn.boxes, m.boxOf(f, up))
		}
		m.fns = append(m.fns, fn)
		f.regs[i.A] = refOf(impl.KFn, len(m.fns)-1)
	}
}

func (m *modelRun) stepTables(f *modelFrame, i impl.Ins) {
	switch i.Op {
	case impl.ITable:
		m.spend(1)
		m.tables = append(m.tables, &modelTable{})
		f.regs[i.A] = refOf(impl.KTable, len(m.tables)-1)
	case impl.IRaw:
		v, k, w := f.value(i.A), f.value(i.B), f.value(i.C)
		m.failIf(v.Kind != impl.KTable, impl.ErrIndex)
		m.raw(v, k, w)
	case impl.IRawAll:
		v, k, list := f.value(i.A), f.value(i.B), f.list(i.C)
		m.failIf(v.Kind != impl.KTable, impl.ErrIndex)
		m.failIf(k.Kind != impl.KInt, impl.ErrKey)
		for n, w := range list {
			m.raw(v, intOf(k.Num+int64(n)), w)
		}
	case impl.IIndex:
		v, k := f.value(i.B), f.value(i.C)
		f.regs[i.A] = m.read(v, k, 0)
	case impl.ISet:
		v, k, w := f.value(i.A), f.value(i.B), f.value(i.C)
		m.write(v, k, w, 0)
	case impl.IUnary:
		f.regs[i.A] = m.unary(i.B, f.value(i.C))
	case impl.IBinary:
		a, b := f.value(i.C), f.value(i.D)
		f.regs[i.A] = m.binary(i.B, a, b)
	}
}

func (m *modelRun) raw(v, k, w impl.Value) {
	m.failIf(impl.Key(k).Code != 0, impl.ErrKey)
	t := m.tables[v.Ref]
	if m.get(v, k).Kind == impl.KNil && w.Kind != impl.KNil {
		m.failIf(len(t.table.Pairs) == impl.MaxPairs, impl.ErrLong)
		m.spend(1)
	}
	t.table = impl.Put(t.table, k, w)
}

func (m *modelRun) read(v, k impl.Value, steps int) impl.Value {
	m.failIf(v.Kind != impl.KTable, impl.ErrIndex)
	found, h := m.get(v, k), m.handler(v, "index")
	if found.Kind != impl.KNil || h.Kind == impl.KNil {
		return found
	}
	if h.Kind != impl.KTable {
		return m.first(h, v, k)
	}
	m.failIf(steps == impl.MaxChain, impl.ErrLoop)
	return m.read(h, k, steps+1)
}

func (m *modelRun) write(v, k, w impl.Value, steps int) {
	m.failIf(v.Kind != impl.KTable, impl.ErrIndex)
	m.failIf(impl.Key(k).Code != 0, impl.ErrKey)
	h := m.handler(v, "setindex")
	if m.get(v, k).Kind != impl.KNil || h.Kind == impl.KNil {
		m.raw(v, k, w)
		return
	}
	if h.Kind != impl.KTable {
		m.call(h, []impl.Value{v, k, w})
		return
	}
	m.failIf(steps == impl.MaxChain, impl.ErrLoop)
	m.write(h, k, w, steps+1)
}

func (m *modelRun) unary(op int, v impl.Value) impl.Value {
	h := m.handler(v, operationNames[op])
	if op == impl.OpLen && v.Kind == impl.KTable && h.Kind == impl.KNil {
		return intOf(int64(impl.Length(m.tables[v.Ref].table)))
	}
	got := impl.Unary(op, v)
	if got.Code == 0 {
		return got.Value
	}
	m.failIf(h.Kind == impl.KNil, impl.ErrType)
	return m.first(h, v)
}

func (m *modelRun) binary(op int, a, b impl.Value) impl.Value {
	name := operationNames[op]
	pick := func(a, b impl.Value, name string) impl.Value {
		if h := m.handler(a, name); h.Kind != impl.KNil {
			return h
		}
		return m.handler(b, name)
	}
	switch {
	case op == impl.OpEq || op == impl.OpNe:
		h := pick(a, b, "eq")
		if a.Kind == impl.KTable && b.Kind == impl.KTable && a.Ref != b.Ref && h.Kind != impl.KNil {
			return boolOf(impl.Truth(m.first(h, a, b)) == (op == impl.OpEq))
		}
	case op >= impl.OpLt && impl.Compare(a, b) == 3:
		if op >= impl.OpGt {
			a, b, name = b, a, operationNames[op-2]
		}
		h := pick(a, b, name)
		m.failIf(h.Kind == impl.KNil, impl.ErrType)
		return boolOf(impl.Truth(m.first(h, a, b)))
	case op == impl.OpJoin:
		m.tick()
	}
	got := impl.Binary(op, a, b)
	if h := pick(a, b, name); got.Code == impl.ErrType && h.Kind != impl.KNil {
		return m.first(h, a, b)
	}
	m.failIf(got.Code != 0, got.Code)
	return got.Value
}

func (m *modelRun) stepJump(f *modelFrame, i impl.Ins) int {
	if i.Op == impl.IJump {
		return i.A
	}
	if impl.Truth(f.value(i.A)) == (i.Op == impl.IIf) {
		return i.B
	}
	return -1
}

func (m *modelRun) stepLists(f *modelFrame, i impl.Ins) {
	nth := func(list []impl.Value, n int) impl.Value {
		if n < len(list) {
			return list[n]
		}
		return impl.Value{}
	}
	switch i.Op {
	case impl.IList:
		f.regs[i.A] = []impl.Value{}
	case impl.IAdd, impl.IJoin:
		var more []impl.Value
		if i.Op == impl.IAdd {
			more = []impl.Value{f.value(i.B)}
		} else {
			more = f.list(i.B)
		}
		m.failIf(len(f.list(i.A))+len(more) > impl.MaxList, impl.ErrLong)
		f.regs[i.A] = slices.Concat(f.list(i.A), more)
	case impl.IFirst:
		f.regs[i.A] = nth(f.list(i.B), 0)
	case impl.IPick:
		f.regs[i.A] = nth(f.list(i.B), i.C)
	case impl.ICopy:
		f.regs[i.A] = f.list(i.B)
	}
}

func (m *modelRun) stepCalls(f *modelFrame, i impl.Ins) {
	inner := &modelGuard{}
	if n := len(f.guards); n > 0 {
		inner = f.guards[n-1]
	}
	switch i.Op {
	case impl.ICall:
		fn, args := f.value(i.B), f.list(i.C)
		f.regs[i.A] = slices.Clone(m.call(fn, args))
	case impl.IReturn:
		panic(modelReturn{f.list(i.A)})
	case impl.IThrow:
		m.throw(f.value(i.A))
	case impl.ITry:
		f.guards = append(f.guards, &modelGuard{try: true, keep: i.B, handler: i.A, line: f.line})
	case impl.IEndTry:
		f.guards = f.guards[:len(f.guards)-1]
	case impl.IScope:
		f.guards = append(f.guards, &modelGuard{keep: i.A})
	case impl.IKeep:
		inner.keep = i.A
	case impl.IDefer:
		fn, args := f.value(i.A), f.list(i.B)
		inner.defers = append(slices.Clone(inner.defers), modelDefer{fn, args, f.line})
	case impl.ILeave:
		if out := m.defers(f, inner, nil); out != nil {
			panic(out)
		}
	}
}

func (m *modelRun) stepLoops(f *modelFrame, i impl.Ins) int {
	switch i.Op {
	case impl.IEach:
		m.each(f, i.A)
		return -1
	case impl.IEachNext:
		return m.eachNext(f, i)
	}
	a, b, s := f.value(i.A), f.value(i.A+1), f.value(i.A+2)
	zero := intOf(0)
	switch i.Op {
	case impl.IFor:
		m.failIf(!isNumber(a) || !isNumber(b) || !isNumber(s), impl.ErrType)
		m.failIf(impl.Same(s, zero) || isNaN(s), impl.ErrStep)
		for n, v := range []impl.Value{a, b, s} {
			if v.Kind == impl.KInt && (a.Kind == impl.KFlt || b.Kind == impl.KFlt || s.Kind == impl.KFlt) {
				f.regs[i.A+n] = fltOf(float64(v.Num))
			}
		}
	case impl.IForTest:
		down := isNumber(s) && impl.Compare(s, zero) == -1
		if c := impl.Compare(a, b); c > 1 || c == 1 && !down || c == -1 && down {
			return i.B
		}
	case impl.IForNext:
		sum := impl.Binary(impl.OpAdd, a, s)
		if sum.Code != 0 {
			return -1
		}
		if n := sum.Value.Num; sum.Value.Kind == impl.KInt && (s.Num == 0 || s.Num > 0 && n < a.Num || s.Num < 0 && n > a.Num) {
			return -1
		}
		f.regs[i.A] = sum.Value
		return i.B
	}
	return -1
}

func (m *modelRun) each(f *modelFrame, at int) {
	v := f.value(at)
	h := m.handler(v, "each")
	if v.Kind == impl.KTable && h.Kind == impl.KNil {
		f.regs[at+1] = intOf(0)
		return
	}
	if h.Kind != impl.KNil {
		f.regs[at] = nil
		f.regs[at] = m.first(h, v)
	}
	v = f.value(at)
	m.failIf(v.Kind != impl.KFn && v.Kind != impl.KBuiltin, impl.ErrType)
	f.regs[at+1] = impl.Value{}
}

func (m *modelRun) eachNext(f *modelFrame, i impl.Ins) int {
	v, p := f.value(i.A), f.value(i.A+1)
	if p.Kind != impl.KInt {
		m.tick()
		values := m.call(v, nil)
		if len(values) == 0 || values[0].Kind == impl.KNil {
			return i.B
		}
		f.regs[i.C] = values
		return -1
	}
	m.failIf(v.Kind != impl.KTable, impl.ErrIndex)
	found := impl.After(m.tables[v.Ref].table, int(p.Num))
	if !found.Found {
		return i.B
	}
	m.tick()
	f.regs[i.A+1] = intOf(int64(found.Pair.Turn))
	f.regs[i.C] = []impl.Value{found.Pair.Key, found.Pair.Val}
	return -1
}

func (m *modelRun) builtin(b int, given []impl.Value) []impl.Value {
	args := append(slices.Clone(given), impl.Value{}, impl.Value{}, impl.Value{})
	a, k := args[0], args[1]
	isTable := a.Kind == impl.KTable
	one := func(v impl.Value) []impl.Value { return []impl.Value{v} }
	switch b {
	case impl.BPrint:
		var texts []string
		for _, v := range given {
			texts = append(texts, impl.Text(v))
		}
		line := strings.Join(texts, " ")
		m.failIf(len(line) > impl.MaxStr, impl.ErrLong)
		m.rec(impl.RecPrint, m.frame().proto, m.frame().line, line)
		return nil
	case impl.BRead:
		if len(m.lines) == 0 {
			return one(impl.Value{})
		}
		line := m.lines[0]
		m.lines = m.lines[1:]
		return one(strOf(line))
	case impl.BType:
		return one(strOf(strings.Fields("nil bool int float str table fn task fn")[a.Kind]))
	case impl.BText:
		return one(strOf(impl.Text(a)))
	case impl.BSetKind:
		m.failIf(!isTable || k.Kind != impl.KNil && k.Kind != impl.KTable, impl.ErrArgs)
		m.tables[a.Ref].kind = k
		m.tables[a.Ref].wants = m.get(k, strOf("last")).Kind == impl.KFn
		return one(a)
	case impl.BKind:
		if isTable {
			return one(m.tables[a.Ref].kind)
		}
		return one(impl.Value{})
	case impl.BRawGet:
		m.failIf(!isTable, impl.ErrArgs)
		return one(m.get(a, k))
	case impl.BRawSet:
		m.failIf(!isTable, impl.ErrArgs)
		m.raw(a, k, args[2])
		return nil
	case impl.BCollect:
		return one(intOf(int64(m.collect())))
	case impl.BCells:
		return one(intOf(int64(m.cells(m.reached()))))
	}
	return m.taskBuiltin(b, given, a)
}

func (m *modelRun) taskBuiltin(b int, given []impl.Value, a impl.Value) []impl.Value {
	switch b {
	case impl.BTask:
		m.failIf(a.Kind != impl.KFn, impl.ErrArgs)
		m.failIf(len(m.tasks) == 1+impl.MaxTasks, impl.ErrTask)
		m.spend(1)
		m.tasks = append(m.tasks, &modelTask{number: len(m.tasks), state: "new", fn: a})
		return []impl.Value{refOf(impl.KTask, len(m.tasks)-1)}
	case impl.BYield:
		t := m.now
		m.failIf(t.number == 0 || t.giving || len(t.words) > 0, impl.ErrTask)
		t.state, t.given = "waiting", append([]impl.Value{boolOf(true)}, given...)
		m.turn(t.waiter, "yield")
		t.waiter = nil
		if !t.pause(0) {
			panic(modelOver{})
		}
		if t.giving {
			panic(modelGone{})
		}
		return t.given
	}
	m.failIf(a.Kind != impl.KTask, impl.ErrArgs)
	t := m.tasks[a.Ref]
	if b == impl.BStatus {
		return []impl.Value{strOf(t.state)}
	}
	m.failIf(t.state != "new" && t.state != "waiting", impl.ErrTask)
	if b == impl.BResume {
		return m.let(t, "resume", given[1:])
	}
	if t.state == "new" {
		t.state = "done"
		return []impl.Value{boolOf(true)}
	}
	t.giving = true
	for _, f := range t.frames {
		f.onWay = nil
	}
	return m.let(t, "giveup", nil)
}

func (m *modelRun) turn(to *modelTask, text string) {
	to.state = "running"
	m.now = to
	m.rec(impl.RecTurn, 0, 0, text)
}

// let lets a task run until it gives the turn back.
func (m *modelRun) let(t *modelTask, text string, given []impl.Value) []impl.Value {
	isNew := t.state == "new"
	t.waiter, t.given = m.now, given
	m.now.state = "busy"
	m.turn(t, text)
	if isNew {
		t.next, t.stop = iter.Pull(func(yield func(int) bool) {
			t.pause = yield
			m.live(t)
		})
	}
	t.next()
	return t.given
}

func (m *modelRun) live(t *modelTask) {
	var values []impl.Value
	out := modelTry(func() { values = m.call(t.fn, t.given) })
	text := "done"
	values = append([]impl.Value{boolOf(true)}, values...)
	switch way := out.(type) {
	case modelOver:
		panic(way)
	case modelThrow:
		text, values = "error", []impl.Value{boolOf(false), way.value, way.trace}
	case modelGone:
		text = "gone"
		if len(t.dropped) > 0 {
			values = append([]impl.Value{boolOf(false)}, t.dropped...)
		}
	}
	t.state, t.given, t.dropped = "done", values, nil
	m.turn(t.waiter, text)
}

// modelThing is a table, a fn or a task.
type modelThing struct{ kind, ref int }

func isThing(v impl.Value) bool { return v.Kind >= impl.KTable && v.Kind <= impl.KTask }

func thingOf(v impl.Value) modelThing { return modelThing{v.Kind, v.Ref} }

func (m *modelRun) reached() map[modelThing]int {
	all := map[modelThing]int{}
	for _, t := range m.tasks {
		if t.state == "running" || t.state == "busy" {
			all[modelThing{impl.KTask, t.number}] = 1
		}
	}
	for before := -1; before < len(all); {
		before = len(all)
		var found []impl.Value
		for thing := range all {
			found = append(found, m.heldBy(thing, all)...)
		}
		for _, v := range found {
			if isThing(v) {
				all[thingOf(v)] = 1
			}
		}
	}
	return all
}

func (m *modelRun) heldBy(thing modelThing, all map[modelThing]int) []impl.Value {
	switch thing.kind {
	case impl.KTask:
		return m.tasks[thing.ref].holds()
	case impl.KFn:
		var out []impl.Value
		for _, box := range m.fns[thing.ref].boxes {
			out = append(out, *box)
		}
		return out
	}
	t := m.tables[thing.ref]
	out := []impl.Value{t.kind}
	weakKeys, weakVals := m.weak(t)
	for _, p := range t.table.Pairs {
		if !weakKeys {
			out = append(out, p.Key)
		}
		if !weakVals && (!weakKeys || !isThing(p.Key) || all[thingOf(p.Key)] == 1) {
			out = append(out, p.Val)
		}
	}
	return out
}

func (m *modelRun) weak(t *modelTable) (bool, bool) {
	how := m.get(t.kind, strOf("weak"))
	return how.Kind == impl.KStr && strings.Contains(how.Str, "k"), how.Kind == impl.KStr && strings.Contains(how.Str, "v")
}

func (t *modelTask) holds() []impl.Value {
	if t.state == "done" {
		return nil
	}
	if t.state == "new" {
		return []impl.Value{t.fn}
	}
	out := append(slices.Clone(t.words), t.dropped...)
	for _, f := range t.frames {
		out = append(append(out, f.fn), f.onWay...)
		for _, held := range f.regs {
			switch x := held.(type) {
			case impl.Value:
				out = append(out, x)
			case *impl.Value:
				out = append(out, *x)
			case []impl.Value:
				out = append(out, x...)
			}
		}
		for _, g := range f.guards {
			for _, d := range g.defers {
				out = append(append(out, d.fn), d.args...)
			}
		}
	}
	return out
}

func (m *modelRun) cells(all map[modelThing]int) int {
	n := 0
	for thing := range all {
		switch {
		case thing.kind == impl.KTable:
			n += 1 + len(m.tables[thing.ref].table.Pairs)
		case thing.kind == impl.KFn:
			n += 1 + len(m.fns[thing.ref].boxes)
		case thing.ref > 0:
			n++
		}
	}
	return n
}

func (m *modelRun) collect() int {
	for told := true; told; {
		all := m.reached()
		lost := func(v impl.Value) bool { return isThing(v) && all[thingOf(v)] == 0 }
		for i, t := range m.tables {
			weakKeys, weakVals := m.weak(t)
			for _, p := range t.table.Pairs {
				if !lost(refOf(impl.KTable, i)) && (weakKeys && lost(p.Key) || weakVals && lost(p.Val)) {
					t.table = impl.Put(t.table, p.Key, impl.Value{})
				}
			}
		}
		var words []impl.Value
		for i, t := range m.tables {
			self, last := refOf(impl.KTable, i), m.get(t.kind, strOf("last"))
			if !lost(self) {
				continue
			}
			if t.wants && last.Kind == impl.KFn {
				words = append(words, self, last)
			}
			t.wants = false
		}
		m.speak(words)
		told = len(words) > 0
	}
	m.lives, m.since = m.cells(m.reached()), 0
	return m.lives
}

func (m *modelRun) speak(words []impl.Value) {
	t := m.now
	outer := t.words
	t.words = slices.Concat(outer, words)
	for i := 0; i < len(words); i += 2 {
		m.rec(impl.RecLast, 0, 0, "")
		switch out := modelTry(func() { m.call(words[i+1], words[i:i+1]) }).(type) {
		case modelThrow:
			m.rec(impl.RecCatch, 0, 0, m.told(out.value))
		case modelOver:
			panic(out)
		}
	}
	t.words = outer
}
