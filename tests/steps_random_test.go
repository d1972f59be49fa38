package tests

import (
	"slices"
	"strings"
	"testing"

	"loop.example/punch/impl"
)

// writtenRuns are the runs that are written out by hand.
func writtenRuns() []ran {
	return slices.Concat(
		linesAndTicksRuns(), movesAndBoxesRuns(), fnsCloseOverBoxesRuns(), tablesAreWrittenAndReadRuns(), operationsStepRuns(), jumpsRuns(), listsStepRuns(), dropsRuns(),
		callsOfFnsRuns(), callsOfTablesRuns(), textsRuns(), kindsOfTablesRuns(), writingRuns(), catchesRuns(), defersRuns(), errorsInsteadOfReturnsRuns(), keepsOfLeaveRuns(), eachOverTablesRuns(), eachOverCallsRuns(),
		tasksYieldAndEndRuns(), statesOfTasksRuns(), yieldsThatFailRuns(), givingUpRuns(), noCellsLeftRuns(), collectGivesRoomRuns(), lastWordsRuns(), lastWordsThatHoldOnRuns(),
	)
}

// holdModel asks for the Report of the model.
func holdModel(t *testing.T, name string, c impl.Code, in impl.Input) impl.Report {
	t.Helper()
	got, want := impl.RunCode(c, in), modelReport(c, in)
	if !sameReports(got, want) {
		t.Fatalf("%s: %v\ngot\n%.3000s\nwant\n%.3000s\n%.4000s%v", name, in, reportText(got), reportText(want), impl.Listing(c), c)
	}
	return got
}

func TestWrittenRunsAgainstTheModel(t *testing.T) {
	for _, r := range writtenRuns() {
		holdModel(t, r.name, woven(r.code), r.input())
	}
	for _, n := range []int{1, 3, 20, 40} {
		for _, weak := range []string{"k", "v", "kv"} {
			holdModel(t, "many pairs", woven(manyPairs(n, weak)), plenty())
		}
		holdModel(t, "many last words", woven(manyLast(min(n, 20))), plenty())
		holdModel(t, "guards", woven(nested(n, "ret")), plenty())
		holdModel(t, "throwing", woven(throwing(n)), plenty())
	}
	c, in := memoryRun()
	holdModel(t, "memory", c, in)
}

// The runs that are written out by hand go through every instruction, and call every builtin.
func TestWrittenRunsUseEverything(t *testing.T) {
	var used [impl.ILast + 1]int
	var called [impl.Builtins]int
	for _, r := range writtenRuns() {
		c := woven(r.code)
		for p, proto := range c.Protos {
			for i, s := range impl.States(c, p) {
				if s.Reached {
					used[proto.Ins[i].Op]++
				}
			}
			for _, v := range proto.Consts {
				if v.Kind == impl.KBuiltin {
					called[v.Num]++
				}
			}
		}
	}
	for op := 1; op <= impl.ILast; op++ {
		if used[op] == 0 {
			t.Errorf("instruction %d is in none", op)
		}
	}
	for b, n := range called {
		if n == 0 {
			t.Errorf("builtin %d is in none", b)
		}
	}
}

// stepWeaver weaves codes out of the written ones that do something when they are run.
func stepWeaver(seed int64) *weaver {
	w := newWeaver(seed)
	w.seeds = nil
	for _, r := range writtenRuns() {
		// A code that only goes round for ever would fill the pool with its like.
		if c := woven(r.code); insCount(c) < 200 && impl.RunCode(c, r.input()).Code != 2 {
			w.seeds = append(w.seeds, c)
		}
	}
	return w
}

// season adds consts to a code that lead somewhere, and takes registers at random places.
func (w *weaver) season(c *impl.Code) {
	words := append(slices.Clone(builtinNames), strings.Fields(`"add" "eq" "lt" "le" "neg" "len" "index" "setindex" "call" "each" "last" "weak" "k" "v" "kv" "code" "id" nil true 0 1 2 -1 0.5 "x"`)...)
	p := &c.Protos[w.pick(len(c.Protos))]
	for range w.pick(3) {
		p.Consts = append(p.Consts, valueOf(words[w.pick(len(words))]))
	}
	for i := range p.Ins {
		if ins := &p.Ins[i]; ins.Op == impl.IConst && len(p.Consts) > 0 && w.chance(4) {
			ins.B = w.pick(len(p.Consts))
		}
		w.take(&p.Ins[i])
	}
}

// take turns an operand that is read into one that is taken, or back.
func (w *weaver) take(ins *impl.Ins) {
	for j, field := range []*int{&ins.A, &ins.B, &ins.C, &ins.D} {
		if form := formOf(ins.Op)[j]; (form == 'v' || form == 't') && w.chance(2) {
			*field = -1 - *field
		}
	}
}

// probe prints what is counted at some place, or behind a collect there.
func (w *weaver) probe(c *impl.Code) {
	p := &c.Protos[w.pick(len(c.Protos))]
	list, spare := p.Regs-2, p.Regs-1
	if list < 0 {
		return
	}
	p.Consts = append(p.Consts, builtinOf(impl.BCells-int64(w.pick(2))), builtinOf(impl.BPrint))
	call := do(impl.ICall, list, -1-spare, -1-list)
	w.put(p, w.pick(len(p.Ins)), do(impl.IList, list), do(impl.IConst, spare, len(p.Consts)-2), call, do(impl.IConst, spare, len(p.Consts)-1), call, do(impl.IDrop, list))
}

// put puts instructions at a place and moves those that others name.
func (w *weaver) put(p *impl.Proto, at int, piece ...impl.Ins) {
	p.Ins = slices.Insert(p.Ins, at, piece...)
	for i := range p.Ins {
		if i >= at && i < at+len(piece) {
			continue
		}
		for j, field := range []*int{&p.Ins[i].A, &p.Ins[i].B, &p.Ins[i].C, &p.Ins[i].D} {
			// What led to the place leads to the piece now.
			if formOf(p.Ins[i].Op)[j] == 'i' && *field > at {
				*field += len(piece)
			}
		}
	}
}

// crowd puts a few instructions of one code at a place of another, where they may fit.
func (w *weaver) crowd(c *impl.Code) {
	other := w.seeds[w.pick(len(w.seeds))]
	from := other.Protos[w.pick(len(other.Protos))]
	p := &c.Protos[w.pick(len(c.Protos))]
	first := w.pick(len(from.Ins))
	piece := slices.Clone(from.Ins[first:min(len(from.Ins), first+1+w.pick(12))])
	at := w.pick(len(p.Ins) + 1)
	consts := len(p.Consts)
	p.Consts = append(p.Consts, from.Consts...)
	for i := range piece {
		if piece[i].Op == impl.IConst {
			piece[i].B += consts
		}
	}
	w.put(p, at, piece...)
}

func (w *weaver) nextStep() impl.Code {
	c := w.seeds[w.pick(len(w.seeds))]
	if len(w.pool) > 0 && w.chance(60) {
		c = w.pool[w.pick(len(w.pool))]
	}
	c = copyCode(c)
	for range 1 + w.pick(2) {
		switch w.pick(6) {
		case 0:
			w.crowd(&c)
		case 1:
			w.season(&c)
		case 2, 3:
			w.probe(&c)
		default:
			w.change(&c)
		}
		if impl.CheckShape(c) != (impl.Fault{}) {
			return c
		}
	}
	return c
}

func (w *weaver) input() impl.Input {
	in := impl.Input{Ticks: w.pick(60), Depth: 1 + w.pick(6), Cells: w.pick(40)}
	if w.chance(70) {
		in = impl.Input{Ticks: 150, Depth: 2 + w.pick(8), Cells: 60}
	}
	for range w.pick(3) {
		in.Args, in.Lines = append(in.Args, "arg"), append(in.Lines, "line")
	}
	return in
}

// tally counts what came in runs, so that no sort of thing is missing there.
type tally map[string]int

func (n tally) count(r impl.Report) {
	for _, x := range r.Recs {
		n[recNames[x.Kind]]++
		switch x.Kind {
		case impl.RecThrow, impl.RecTurn, impl.RecBack:
			n[recNames[x.Kind]+" "+x.Text]++
		}
	}
	n["code "+string(rune('0'+r.Code))]++
}

// Codes that were woven by chance are held against the model: those with a fault are not run, the others have one Report.
func TestRunsAgainstTheModel(t *testing.T) {
	w := stepWeaver(11)
	seen := tally{}
	for range 30000 {
		c := w.nextStep()
		in := w.input()
		if impl.CheckCode(c) != (impl.Fault{}) {
			if got := impl.RunCode(c, in); !sameReports(got, impl.Report{Code: 3}) {
				t.Fatalf("a faulty code: %s\n%v", reportText(got), c)
			}
			seen["code 3"]++
			continue
		}
		got := holdModel(t, "woven", c, in)
		seen.count(got)
		if w.chance(3) {
			holdEveryRun(t, "woven", c, in, got)
		}
		if insCount(c) < 200 && len(got.Recs) > 3 {
			w.pool = append(w.pool, c)
			if len(w.pool) > 800 {
				w.pool = slices.Delete(w.pool, 0, 400)
			}
		}
	}
	for _, what := range []string{"code 0", "code 1", "code 2", "code 3", "line", "call", "back ", "back error", "back gone", "catch", "print", "last", "turn resume", "turn yield", "turn done", "turn error", "turn giveup", "turn gone",
		"throw error 1", "throw error 5", "throw error 6", "throw error 7", "throw error 8", "throw error 9", "throw error 10", "throw error 12"} {
		if seen[what] < 20 {
			t.Errorf("%q came only %d times", what, seen[what])
		}
	}
}
