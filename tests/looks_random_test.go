package tests

import (
	"fmt"
	"slices"
	"strings"
	"testing"

	"loop.example/punch/impl"
)

// writtenLooks are the looks that are written out by hand.
func writtenLooks() []looked {
	return slices.Concat(namesLooks(), callsLooks(), leavingLooks(), tasksLooks(), handlersLooks())
}

// holdModelLooks asks for the Views of the model at each record, and for none behind the last.
func holdModelLooks(t *testing.T, name string, c impl.Code, in impl.Input) []impl.View {
	t.Helper()
	report, want := modelLooks(c, in)
	for k, v := range want {
		if got := impl.LookCode(c, in, k); !sameViews([]impl.View{got}, []impl.View{v}) {
			t.Fatalf("%s: %v\nrecord %d, %s: got\n%s\nwant\n%s\n%.4000s%v", name, in, k, recText(report.Recs[k]), viewText(got), viewText(v), impl.Listing(c), c)
		}
	}
	if got := impl.LookCode(c, in, len(want)); !sameViews([]impl.View{got}, []impl.View{{}}) {
		t.Fatalf("%s: no record %d: %s", name, len(want), viewText(got))
	}
	return want
}

// All kinds of records, with each Text of a turn and of an end, are in the looks that are written out by hand.
func TestWrittenLooksSeeEverything(t *testing.T) {
	seen := tally{}
	for _, l := range writtenLooks() {
		seen.count(impl.RunCode(woven(l.code), l.input()))
	}
	for _, what := range []string{"line", "call", "back ", "back error", "back gone", "throw", "catch", "print", "last", "turn resume", "turn yield", "turn done", "turn error", "turn giveup", "turn gone"} {
		if seen[what] == 0 {
			t.Errorf("%q is in none", what)
		}
	}
}

// The codes whose Reports are written out by hand, with a name for each register.
func TestWrittenRunsAreLookedAt(t *testing.T) {
	for _, r := range writtenRuns() {
		holdModelLooks(t, r.name, named(woven(r.code)), r.input())
	}
}

// nameAll puts names in by chance: many that hold nearly everywhere, some that hold at few instructions.
func (w *weaver) nameAll(c *impl.Code) {
	for i := range c.Protos {
		p := &c.Protos[i]
		p.Named = nil
		for reg := range min(p.Regs, 10) {
			n := impl.Named{Name: fmt.Sprint("r", reg), Reg: reg, To: len(p.Ins)}
			if w.chance(40) {
				n.From = w.pick(len(p.Ins) + 1)
				n.To = n.From + w.pick(len(p.Ins)-n.From+1)
			}
			p.Named = append(p.Named, n)
		}
		w.dice.Shuffle(len(p.Named), func(a, b int) { p.Named[a], p.Named[b] = p.Named[b], p.Named[a] })
	}
}

// tallyViews counts what was seen.
func (n tally) tallyViews(views []impl.View) {
	for _, v := range views {
		n[fmt.Sprint("calls ", min(len(v.Calls), 3))]++
		for _, open := range v.Calls {
			n["vars"] += len(open.Vars)
		}
		if v.Task > 0 {
			n["in another task"]++
		}
	}
}

// Codes that were woven by chance, with names by chance, are held against the model at each of their records.
func TestLooksAgainstTheModel(t *testing.T) {
	w := stepWeaver(12)
	for _, l := range writtenLooks() {
		w.seeds = append(w.seeds, woven(l.code))
	}
	seen := tally{}
	for range 12000 {
		c := w.nextStep()
		if impl.CheckShape(c) == (impl.Fault{}) {
			w.nameAll(&c)
		}
		in := w.input()
		if impl.CheckCode(c) != (impl.Fault{}) {
			if got := impl.LookCode(c, in, w.pick(3)); !sameViews([]impl.View{got}, []impl.View{{}}) {
				t.Fatalf("a faulty code: %s\n%v", viewText(got), c)
			}
			seen["faulty"]++
			continue
		}
		views := holdModelLooks(t, "woven", c, in)
		report := impl.RunCode(c, in)
		seen.count(report)
		seen.tallyViews(views)
		if w.chance(2) {
			holdEveryLook(t, "woven", c, in)
		}
		if insCount(c) < 200 && len(views) > 3 {
			w.pool = append(w.pool, c)
			if len(w.pool) > 800 {
				w.pool = slices.Delete(w.pool, 0, 400)
			}
		}
	}
	for _, what := range strings.Split("faulty,vars,in another task,calls 0,calls 1,calls 2,calls 3,line,call,back ,back error,back gone,throw,catch,print,last,turn resume,turn yield,turn done,turn error,turn giveup,turn gone", ",") {
		if seen[what] < 20 {
			t.Errorf("%q came only %d times", what, seen[what])
		}
	}
}
