package tests

import (
	"fmt"
	"reflect"
	"runtime"
	"slices"
	"strings"
	"sync"
	"testing"
	"time"

	"loop.example/punch/impl"
)

var noView = []impl.View{{}}

func holdNone(t *testing.T, name string, c impl.Code, in impl.Input, k int) {
	t.Helper()
	if got := impl.LookCode(c, in, k); !sameViews([]impl.View{got}, noView) {
		t.Errorf("%s, record %d: %s", name, k, viewText(got))
	}
}

// Where there is no run there is no record.
func TestNoLooksWithoutARun(t *testing.T) {
	for code, c := range faultyCodes() {
		for _, i := range inputCases() {
			for _, k := range []int{-1, 0, 1, mostInt} {
				holdNone(t, fmt.Sprintf("fault %d, %s", code, i.name), c, i.in, k)
			}
		}
	}
	c := woven("proto main\n  name x 0\n  const 0 1\n  raise \"x\"")
	for _, i := range inputCases() {
		if !i.ok {
			holdNone(t, i.name, c, i.in, 0)
		} else if got := impl.LookCode(c, i.in, 0); viewText(got) != "0: 0@0 x=1" {
			t.Errorf("%s: %s", i.name, viewText(got))
		}
	}
	// A fault in a proto that is never called, too.
	unsound := woven("proto main\n  line 1\n  jump end\n  fn 0 f\nend:\n  ret\nproto f\n  const 0 1\n  return 0")
	holdNone(t, "a proto that is never called", unsound, plenty(), 0)
}

func TestNoLooksWithoutRecords(t *testing.T) {
	c := woven("proto main\n  name x 0\n  const 0 1\n  tick\n  ret r0")
	for _, ticks := range []int{0, 1, 5} {
		for _, k := range []int{leastInt, -1, 0, 1, mostInt} {
			holdNone(t, "no records", c, impl.Input{Ticks: ticks, Depth: 1}, k)
		}
	}
	// The ticks of the first line are not there.
	c = woven("proto main\n  line 1\n  line 2\n  raise 3")
	for ticks, want := range []int{0, 1, 3, 3} {
		in := impl.Input{Ticks: ticks, Depth: 1}
		for k := range 5 {
			if got := impl.LookCode(c, in, k).Ok; got != (k < want) {
				t.Errorf("%d ticks, record %d: %v", ticks, k, got)
			}
		}
	}
}

// The last of as many records as there can be: 20 throws and catches a turn, of which the first throw sees a register filled.
func TestLooksAtTheLastRecords(t *testing.T) {
	c := woven(strings.Replace(throwing(20), "tick\n", "tick\n  name x 5\n  const 5 \"v\"\n", 1))
	in := impl.Input{Ticks: impl.MaxTicks, Depth: 1}
	if got := impl.RunCode(c, in); len(got.Recs) != impl.MaxRecs {
		t.Fatalf("%d records, %v", len(got.Recs), impl.CheckCode(c))
	}
	filled, empty := "0: 0@0 x=v", "0: 0@0"
	for k, want := range map[int]string{0: filled, 1: empty, 2: empty, 39: empty, 40: filled, impl.MaxRecs - 40: filled, impl.MaxRecs - 39: empty, impl.MaxRecs - 1: empty, impl.MaxRecs: "none", impl.MaxRecs + 1: "none", mostInt: "none"} {
		if got := viewText(impl.LookCode(c, in, k)); got != want {
			t.Errorf("record %d: %s, want %s", k, got, want)
		}
	}
}

// As many open calls as there can be, each with its own line and variable.
func TestLooksAtManyOpenCalls(t *testing.T) {
	c := woven(`
proto main
  const 0 nil
  box 0 ~0
  fn 1 deeper
  put 0 1
  line 1
  do r1 1
  ret
proto deeper params=1 ups=l0
  name n 0 ; name next 1
  const 2 1
  binary 1 add 0 ~2
  line 7
  upget 2 0
  do ~r2 r1
  ret
`)
	in := impl.Input{Ticks: 1000, Depth: impl.MaxDepth, Cells: 20}
	report := impl.RunCode(c, in)
	at := slices.IndexFunc(report.Recs, func(r impl.Rec) bool { return r.Kind == impl.RecThrow })
	var want []string
	for n := impl.MaxDepth - 1; n >= 1; n-- {
		want = append(want, fmt.Sprintf("1@7 n=%d next=%d", n, n+1))
	}
	if got := viewText(impl.LookCode(c, in, at)); got != "0: "+strings.Join(append(want, "0@1"), " | ") {
		t.Errorf("%v, the error: %s", impl.CheckCode(c), got)
	}
	// From there on a call ends with each record.
	for i := range want {
		want[i] = strings.Replace(strings.Split(want[i], " next")[0], "@7", "@0", 1)
		if got := viewText(impl.LookCode(c, in, at+1+i)); got != "0: "+strings.Join(append(slices.Clone(want[i:]), "0@1"), " | ") {
			t.Errorf("end %d: %s", i, got)
		}
	}
	holdNone(t, "behind the last end", c, in, at+1+len(want))
}

func TestLooksWriteNothing(t *testing.T) {
	c, in := memoryRun()
	before := laidOpen(c)
	args, lines := slices.Clone(in.Args[:cap(in.Args)]), slices.Clone(in.Lines[:cap(in.Lines)])
	hold := func(when string) {
		t.Helper()
		if !reflect.DeepEqual(laidOpen(c), before) || !slices.Equal(in.Args[:cap(in.Args)], args) || !slices.Equal(in.Lines[:cap(in.Lines)], lines) {
			t.Errorf("%s: the code or the input is changed", when)
		}
	}
	_, want := modelLooks(c, in)
	views := looksOf(c, in)
	hold("behind all looks")
	if !sameViews(views, want) || len(views) < 20 {
		t.Fatalf("%v", viewTexts(views))
	}
	for _, v := range views {
		for i := range v.Calls {
			overwritten(v.Calls[i].Vars, impl.Shown{Name: "spoilt"})
		}
		overwritten(v.Calls, impl.Open{Fn: -7})
	}
	hold("behind a change of the answers")
	again := looksOf(c, in)
	if !sameViews(again, want) {
		t.Errorf("other answers: %v", viewTexts(again))
	}
	for p := range c.Protos {
		overwritten(c.Protos[p].Ins, impl.Ins{Op: -7})
		overwritten(c.Protos[p].Consts, strOf("spoilt"))
		overwritten(c.Protos[p].Ups, impl.Up{Index: -7})
		overwritten(c.Protos[p].Named, impl.Named{Name: "spoilt"})
	}
	overwritten(c.Protos, impl.Proto{Name: "spoilt"})
	overwritten(in.Args, "spoilt")
	overwritten(in.Lines, "spoilt")
	if !sameViews(again, want) {
		t.Errorf("the answers hang on the code or the input: %v", viewTexts(again))
	}
}

// No two lists of one answer share memory, not even that behind their ends.
func TestListsOfOneLook(t *testing.T) {
	for _, l := range writtenLooks() {
		c := woven(l.code)
		for k, v := range looksOf(c, l.input()) {
			want := viewText(v)
			for i := range v.Calls {
				held := slices.Clone(v.Calls[i].Vars)
				overwritten(v.Calls[i].Vars, impl.Shown{Name: "spoilt"})
				v.Calls[i].Vars = held
				if got := viewText(v); got != want {
					t.Errorf("%s, record %d: %s, then %s", l.name, k, want, got)
				}
			}
		}
	}
}

// Looks and runs beside one another know nothing of each other.
func TestLooksBesideOneAnother(t *testing.T) {
	c, in := memoryRun()
	report, want := modelLooks(c, in)
	var all sync.WaitGroup
	got := make([]impl.View, len(want))
	runs := make([]impl.Report, len(want))
	for k := range want {
		all.Go(func() { got[k] = impl.LookCode(c, in, k) })
		all.Go(func() { runs[k] = impl.RunCode(c, in) })
	}
	all.Wait()
	if !sameViews(got, want) {
		t.Errorf("%v, want %v", viewTexts(got), viewTexts(want))
	}
	for _, r := range runs {
		if !sameReports(r, report) {
			t.Errorf("%s", reportText(r))
		}
	}
}

// All that a look has set going has ended when it answers, at whatever record.
func TestNothingGoesOnBehindALook(t *testing.T) {
	before := runtime.NumGoroutine()
	for _, l := range tasksLooks() {
		c := woven(l.code)
		for range 20 {
			looksOf(c, l.input())
			impl.LookCode(c, l.input(), -1)
		}
	}
	for range 100 {
		if runtime.NumGoroutine() <= before {
			return
		}
		time.Sleep(10 * time.Millisecond)
	}
	t.Errorf("%d goroutines, %d before", runtime.NumGoroutine(), before)
}
