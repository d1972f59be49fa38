package tests

import (
	"fmt"
	"reflect"
	"runtime"
	"slices"
	"strings"
	"sync"
	"testing"
	"time"

	"loop.example/punch/impl"
)

// faultyCodes has a code for each fault of chapter 3.
func faultyCodes() map[int]impl.Code {
	changed := func(change func(c *impl.Code)) impl.Code {
		c := soundCode()
		change(&c)
		return c
	}
	return map[int]impl.Code{
		1:  {},
		2:  changed(func(c *impl.Code) { c.Protos[0].Line = -1 }),
		3:  changed(func(c *impl.Code) { c.Protos[0].Consts = append(c.Protos[0].Consts, refOf(impl.KTable, 0)) }),
		4:  changed(func(c *impl.Code) { c.Protos[0].Named = append(c.Protos[0].Named, impl.Named{}) }),
		5:  changed(func(c *impl.Code) { c.Protos[0].Ins[0].Op = 43 }),
		6:  codeOf(protoOf(2, do(impl.IFn, 0, 0), do(impl.IThrow, 0))),
		7:  codeOf(plainFn(), plainFn()),
		10: withEnding(3, do(impl.IMove, 0, 1)),
		11: withEnding(3, do(impl.IEndTry)),
		12: textOf(6, trying(2, do(impl.IDrop, 1))...),
		13: textOf(6, ended(do(impl.IDrop, 0), do(impl.IJump, 5))...),
		14: textOf(3, do(impl.IJump, 0)),
	}
}

// A code that is not verified has Code 3 and nothing else, whatever the input (P5).
func TestFaultyCodesAreNotRun(t *testing.T) {
	for code, c := range faultyCodes() {
		if got := impl.CheckCode(c); got.Code != code {
			t.Errorf("fault %d: %v", code, got)
		}
		for _, i := range inputCases() {
			if got := impl.RunCode(c, i.in); !sameReports(got, impl.Report{Code: 3}) {
				t.Errorf("fault %d, %s: %s", code, i.name, reportText(got))
			}
		}
	}
	// A fault in a proto that is never called, too.
	c := woven("proto main\n  line 1\n  jump end\n  fn 0 f\nend:\n  ret\nproto f\n  const 0 1\n  return 0")
	if got := impl.RunCode(c, plenty()); !sameReports(got, impl.Report{Code: 3}) {
		t.Error(reportText(got))
	}
}

// A code that goes round for ever is refused when a turn has no tick, and else runs until its ticks are used up (P13).
func TestRoundsForEver(t *testing.T) {
	for _, c := range []struct {
		name, text     string
		refused        bool
		ticks, records int // of a turn
	}{
		{"a jump", "proto main\nround:\n  jump round", true, 0, 0},
		{"a jump over more", "proto main\nround:\n  table 0\n  drop 0\n  at 4\n  jump round", true, 0, 0},
		{"a throw and a catch", "proto main\nround:\n  try h 0\n  raise 1\nh:\n  drop 0\n  drop 1\n  jump round", true, 0, 0},
		{"a loop by 0", "proto main\n  const 0 1\n  const 1 1\n  const 2 0.5\nround:\n  fornext 0 round\n  ret", true, 0, 0},
		{"a tick", "proto main\nround:\n  tick\n  jump round", false, 1, 0},
		{"a line", "proto main\nround:\n  line 1\n  jump round", false, 1, 1},
		{"a call", "proto main\nround:\n  do type\n  jump round", false, 1, 0},
		{"a print", "proto main\nround:\n  do print\n  jump round", false, 1, 1},
		{"a call of a fn", "proto main\n  fn 0 f\nround:\n  do r0\n  jump round\nproto f\n  ret", false, 1, 2},
		{"a join", "proto main\n  const 0 \"\"\nround:\n  binary 0 join 0 0\n  jump round", false, 1, 0},
		{"a join that fails", "proto main\n  const 0 nil\nround:\n  try h 1\n  binary 1 join 0 0\n  endtry\n  ret\nh:\n  drop 1\n  drop 2\n  jump round", true, 0, 0},
		{"a task", "proto main\n  fn 0 f\n  let 1 task ~r0\nround:\n  do resume r1\n  jump round\nproto f\nround:\n  do yield\n  jump round", false, 2, 2},
		{"a turn that never ends", "proto main\n  fn 0 f\n  each 0\nround:\n  eachnext 0 end 2\n  drop 2\n  jump round\nend:\n  ret\nproto f\n  ret 1", false, 2, 2},
	} {
		code := woven(c.text)
		if c.refused {
			if got := impl.RunCode(code, plenty()); !sameReports(got, impl.Report{Code: 3}) || impl.CheckCode(code).Code != 14 {
				t.Errorf("%s: %s", c.name, reportText(got))
			}
			continue
		}
		for _, ticks := range []int{0, 1, 10, 100, 4999, 5000} {
			got := impl.RunCode(code, impl.Input{Ticks: ticks, Depth: 5, Cells: 9})
			if got.Code != 2 || got.Ticks != ticks {
				t.Errorf("%s, %d ticks: Code %d, %d ticks", c.name, ticks, got.Code, got.Ticks)
			}
			if turns := ticks / c.ticks; len(got.Recs) < (turns-2)*c.records || len(got.Recs) > (turns+1)*c.records {
				t.Errorf("%s, %d ticks: %d records", c.name, ticks, len(got.Recs))
			}
		}
	}
}

// What one fn puts into a box that both close over, the other gets (P11).
func TestBoxesOfTwoFns(t *testing.T) {
	for n := 0; n <= 30; n++ {
		code := "proto main\n  const 0 \"first\"\n  box 1 ~0\n  fn 2 put\n  fn 3 get\n  drop 1\n"
		want := []string{"first"}
		for i := range n {
			code += fmt.Sprintf("  do r2 %d\n  let 4 r3\n  do print r4\n", i)
			want = append(want, fmt.Sprint(i))
		}
		code = strings.Replace(code, "drop 1\n", "drop 1\n  let 4 r3\n  do print r4\n", 1) + `
  ret
proto put params=1 ups=l1
  upput 0 0
  ret
proto get ups=l1
  upget 0 0
  ret r0
`
		c := woven(code)
		in := impl.Input{Ticks: 100, Depth: 2, Cells: 4}
		got := impl.RunCode(c, in)
		if got.Code != 0 || printed(got) != strings.Join(want, "|") || got.Made != 4 {
			t.Errorf("%d times: %v %s", n, impl.CheckCode(c), reportText(got))
		}
		if n%10 == 0 {
			holdEveryRun(t, "a box of two fns", c, in, got)
		}
	}
}

// memoryRun is a code with all sorts of lists, names and texts, and an input with room behind its lists.
func memoryRun() (impl.Code, impl.Input) {
	c := woven(strings.Replace("proto main rest\n  const 1 print\n  call 1 ~1 0\n  drop 1\n  let 1 read\n  do print r1\n  drop 1\n  drop 0\n"+recording, "ret\n", "ret 1 \"x\"\n", 1))
	in := impl.Input{Args: roomyList([]string{"a", "b"}, "room"), Lines: roomyList([]string{"l", "m"}, "room"), Ticks: 400, Depth: 9, Cells: 90}
	return roomyCode(named(c)), in
}

func TestRunsWriteNothing(t *testing.T) {
	c, in := memoryRun()
	before := laidOpen(c)
	args, lines := slices.Clone(in.Args[:cap(in.Args)]), slices.Clone(in.Lines[:cap(in.Lines)])
	got := impl.RunCode(c, in)
	if got.Code != 0 || len(got.Vals) != 2 || len(got.Recs) < 20 {
		t.Fatal(impl.CheckCode(c), reportText(got))
	}
	want := impl.Report{Code: got.Code, Recs: slices.Clone(got.Recs), Vals: slices.Clone(got.Vals), Error: got.Error, Trace: got.Trace, Ticks: got.Ticks, Made: got.Made}
	hold := func(when string) {
		t.Helper()
		if !reflect.DeepEqual(laidOpen(c), before) || !slices.Equal(in.Args[:cap(in.Args)], args) || !slices.Equal(in.Lines[:cap(in.Lines)], lines) {
			t.Errorf("%s: the code or the input is changed", when)
		}
	}
	hold("behind a run")
	overwritten(got.Recs, impl.Rec{Kind: -7})
	overwritten(got.Vals, "spoilt")
	hold("behind a change of the answer")
	again := impl.RunCode(c, in)
	if !sameReports(again, want) {
		t.Errorf("another answer: %s", reportText(again))
	}
	for p := range c.Protos {
		overwritten(c.Protos[p].Ins, impl.Ins{Op: -7})
		overwritten(c.Protos[p].Consts, strOf("spoilt"))
		overwritten(c.Protos[p].Ups, impl.Up{Index: -7})
		overwritten(c.Protos[p].Named, impl.Named{Name: "spoilt"})
	}
	overwritten(c.Protos, impl.Proto{Name: "spoilt"})
	overwritten(in.Args, "spoilt")
	overwritten(in.Lines, "spoilt")
	if !sameReports(again, want) {
		t.Errorf("the answer hangs on the code or the input: %s", reportText(again))
	}
}

// Runs beside one another know nothing of each other.
func TestRunsBesideOneAnother(t *testing.T) {
	c, in := memoryRun()
	want := impl.RunCode(c, in)
	var all sync.WaitGroup
	got := make([]impl.Report, 16)
	for i := range got {
		all.Go(func() { got[i] = impl.RunCode(c, in) })
	}
	all.Wait()
	for _, r := range got {
		if !sameReports(r, want) {
			t.Errorf("%s", reportText(r))
		}
	}
}

// All that a run has set going has ended when it answers.
func TestNothingGoesOnBehindARun(t *testing.T) {
	waiting := `
proto main
  fn 0 f
` + strings.Repeat("  let 1 task r0\n  do resume r1\n", 50) + `
  let 2 task r0
  END
proto f
  scope 0
  later yield
  try caught 0
  scope 0
  later yield
  do yield
  ret
caught:
  throw 0
`
	before := runtime.NumGoroutine()
	for _, end := range []string{"ret", `raise "x"`, "tick\n  tick\n  ret"} {
		c := woven(strings.Replace(waiting, "END", end, 1))
		for ticks := 0; ticks <= 202; ticks++ {
			impl.RunCode(c, impl.Input{Ticks: ticks, Depth: 5, Cells: 200})
		}
	}
	for range 100 {
		if runtime.NumGoroutine() <= before {
			return
		}
		time.Sleep(10 * time.Millisecond)
	}
	t.Errorf("%d goroutines, %d before", runtime.NumGoroutine(), before)
}
