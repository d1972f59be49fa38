package tests

import (
	"fmt"
	"strings"
	"testing"

	"loop.example/punch/impl"
)

func withCells(n int) *impl.Input { return &impl.Input{Ticks: 300, Depth: 10, Cells: n} }

// Each thing that is made is made when its cells are allowed, and not when there is one less.
func TestCellsOfEachThing(t *testing.T) {
	for _, c := range []struct {
		name, before, makes string
		held, cells         int
	}{
		{"table", "", "table 5", 0, 1},
		{"pair by raw", "table 0", `field 0 "a" 1`, 1, 1},
		{"pair by set", "table 0", `store r0 "a" 1`, 1, 1},
		{"pair by rawset", "table 0", `do rawset r0 "a" 1`, 1, 1},
		{"pair by rawall", "table 0; seq 1 7; const 2 1", `rawall 0 2 1`, 1, 1},
		{"pair of a table behind setindex", `table 0; table 1; table 2; field 1 "setindex" r2; do setkind r0 r1`, `store r0 "a" 1`, 4, 1},
		{"fn", "", "fn 5 f", 0, 1},
		{"fn with ups", "const 1 1; box 1 ~1", "fn 5 three", 0, 4},
		{"task", "fn 0 f", "do task r0", 1, 1},
	} {
		code := `
proto main
  ` + c.before + `
  line 5
  try caught 5
  at 6
  ` + c.makes + `
  endtry
  ret "made"
caught:
  entry 7 r5 "code"
  ret r7 r6
`
		for _, fn := range []struct{ made, proto string }{{"fn 0 f", "f"}, {"fn 5 f", "f"}, {"fn 5 three", "three ups=l1,l1,l1"}} {
			if strings.Contains(code, fn.made+"\n") {
				code += "proto " + fn.proto + "\n  ret\n"
			}
		}
		enough := impl.RunCode(woven(code), *withCells(c.held + c.cells))
		if enough.Code != 0 || strings.Join(enough.Vals, " ") != "made" || enough.Made != c.held+c.cells {
			t.Errorf("%s: %v %s", c.name, impl.CheckCode(woven(code)), reportText(enough))
		}
		less := impl.RunCode(woven(code), *withCells(c.held + c.cells - 1))
		if less.Code != 0 || strings.Join(less.Vals, " ") != "9 main:6" || less.Made != c.held {
			t.Errorf("%s, one less: %s", c.name, reportText(less))
		}
		holdEveryRun(t, c.name, woven(code), *withCells(c.held + c.cells), enough)
		holdEveryRun(t, c.name+", one less", woven(code), *withCells(c.held + c.cells - 1), less)
	}
}

// What makes nothing is done with no cells left, and errors of other sorts come first.
func noCellsLeftRuns() []ran {
	return []ran{
		{name: "what makes nothing", in: withCells(3), code: `
proto main
  table 0
  field 0 "a" 1
  field 0 "b" 2
  field 0 "a" 3
  store r0 "b" 4
  field 0 "c" nil
  store r0 "d" nil
  do rawset r0 "e" nil
  seq 1 nil nil
  const 2 5
  rawall 0 ~2 ~1
  field 0 "a" nil
  const 1 1
  box 2 1
  seq 3 1 2
  binary 1 join 1 1
  entry 4 r0 "b"
  ret r4
`, want: `
= 0 ticks 2 made 3
vals 4
`},
		{name: "a pair that was taken out is no cell given back", in: withCells(2), code: `
proto main
  table 0
  field 0 "a" 1
  field 0 "a" nil
  field 0 "a" 1
  ret
`, want: `
throw 0.0 0 error 9
= 1 ticks 0 made 2
error error 9
trace main:0
`},
		{name: "no cells at all", in: withCells(0), code: `
proto main
  line 1
  do print "x"
  table 0
  ret
`, want: `
line 0.0 1
print 0.0 1 x
throw 0.0 1 error 9
= 1 ticks 2 made 0
error error 9
trace main:1
`},
		{name: "errors make no cells", in: withCells(0), code: `
proto main
  try one 0
  raise "x"
one:
  drop 0
  drop 1
  try two 0
  const 0 nil
  unary 0 neg ~0
  ret
two:
  entry 2 r0 "code"
  let 3 cells
  ret r2 r3
`, want: `
throw 0.0 0 x
catch 0.0 0 x
throw 0.0 0 error 1
catch 0.0 0 error 1
= 0 ticks 1 made 0
vals 1 3
`},
		{name: "a pair that comes to the table of an error is a cell", in: withCells(1), code: `
proto main
  try one 0
  const 0 nil
  unary 0 neg ~0
  ret
one:
  field 0 "more" 1
  field 0 "code" 2
  field 0 "most" 1
  ret
`, want: `
throw 0.0 0 error 1
catch 0.0 0 error 1
throw 0.0 0 error 9
= 1 ticks 0 made 1
error error 9
trace main:0
`},
		{name: "a wrong key is told first", in: withCells(1), code: `
proto main
  table 0
  field 0 nil 1
  ret
`, want: `
throw 0.0 0 error 5
= 1 ticks 0 made 1
error error 5
trace main:0
`},
		{name: "no table is told first", in: withCells(0), code: `
proto main
  const 0 1
  store r0 1 1
  ret
`, want: `
throw 0.0 0 error 7
= 1 ticks 0 made 0
error error 7
trace main:0
`},
		{name: "no fn for a task is told first", in: withCells(0), code: `
proto main
  do task print
  ret
`, want: `
throw 0.0 0 error 12
= 1 ticks 1 made 0
error error 12
trace main:0
`},
	}
}

func TestNoCellsLeft(t *testing.T) { holdRuns(t, noCellsLeftRuns()) }

// What is allowed are the cells that live and those that were made since: collect gives room for more.
func collectGivesRoomRuns() []ran {
	return []ran{
		{name: "what was let go of", in: withCells(3), code: `
proto main
  table 0
  table 1
  table 2
  drop 2
  let 3 collect
  table 2
  drop 1
  drop 2
  let 4 cells
  do print r3 r4
  let 3 collect
  do print r3
  table 1
  table 2
  table 5
  ret
`, want: `
print 0.0 0 2 1
print 0.0 0 1
throw 0.0 0 error 9
= 1 ticks 5 made 6
error error 9
trace main:0
`},
		{name: "cells gives no room", in: withCells(1), code: `
proto main
  table 0
  drop 0
  let 1 cells
  do print r1
  table 0
  ret
`, want: `
print 0.0 0 0
throw 0.0 0 error 9
= 1 ticks 2 made 1
error error 9
trace main:0
`},
		{name: "tables of errors live like others", in: withCells(3), code: `
proto main
  try one 0
  const 0 nil
  unary 0 neg ~0
  ret
one:
  let 2 collect
  do print r2
  field 0 "code" nil
  field 0 "line" nil
  let 2 collect
  do print r2
  table 2
  table 3
  drop 0
  do collect
  table 4
  table 5
  ret
`, want: `
throw 0.0 0 error 1
catch 0.0 0 error 1
print 0.0 0 3
print 0.0 0 1
throw 0.0 0 error 9
= 1 ticks 5 made 3
error error 9
trace main:0
`},
	}
}

func TestCollectGivesRoom(t *testing.T) { holdRuns(t, collectGivesRoomRuns()) }

// counted asks for what a code prints, which are the cells that it has counted. Where no pair is weak and no last word is wanted, collect counts as cells does.
func counted(t *testing.T, name, code string, want ...int) {
	t.Helper()
	holdCount(t, name, code, want)
	if !strings.Contains(code, `"weak"`) && !strings.Contains(code, `"last"`) {
		holdCount(t, name+", by collect", strings.ReplaceAll(code, " cells", " collect"), want)
	}
}

func holdCount(t *testing.T, name, code string, want []int) {
	t.Helper()
	c := woven(code)
	if fault := impl.CheckCode(c); fault != (impl.Fault{}) {
		t.Fatalf("%s: fault %v", name, fault)
	}
	got := impl.RunCode(c, plenty())
	if printed(got) != strings.Join(strings.Fields(strings.Trim(fmt.Sprint(want), "[]")), "|") {
		t.Errorf("%s: want %v, got %s", name, want, reportText(got))
	}
	holdEveryRun(t, name, c, plenty(), got)
}

// seen is a fn that prints what is counted while it is called.
const seen = `
proto seen
  let 0 cells
  do print r0
  ret
`

func TestWhatRegistersReach(t *testing.T) {
	counted(t, "values, boxes and lists, one in the other", `
proto main
  table 0
  let 1 cells
  do print r1
  table 1
  field 0 "k" ~r1
  let 1 cells
  do print r1
  box 1 ~0
  let 2 cells
  do print r2
  get 0 1
  drop 1
  seq 1 ~r0 1
  let 2 cells
  do print r2
  drop 1
  let 2 cells
  do print r2
  ret
`, 1, 3, 3, 3, 0)
	counted(t, "keys, values and kinds", `
proto main
  table 0
  table 1
  table 2
  field 0 ~r1 ~r2
  table 1
  do setkind r0 ~r1
  let 1 cells
  do print r1
  ret
`, 5)
	counted(t, "fns and what their boxes hold", `
proto main
  table 0
  box 1 ~0
  fn 0 f
  drop 1
  let 2 cells
  do print r2
  fn 3 g
  drop 0
  let 2 cells
  do print r2
  drop 3
  let 2 cells
  do print r2
  ret
proto f ups=l1
  ret
proto g
  ret
`, 3, 1, 0)
	counted(t, "things that hold one another", `
proto main
  table 0
  table 1
  field 0 1 r1
  field 1 1 r0
  field 1 r1 r1
  drop 0
  let 2 cells
  do print r2
  drop 1
  let 2 cells
  do print r2
  const 0 nil
  box 1 ~0
  fn 0 f
  put 1 ~0
  let 2 cells
  do print r2
  drop 1
  let 2 cells
  do print r2
  ret
proto f ups=l1
  ret
`, 5, 0, 2, 0)
	counted(t, "a place keeps what it held until it gets something", `
proto main
  table 0
  table 1
  const 2 cells
  list 3
  call 0 2 3
  first 0 ~0
  do print r0
  let 0 cells
  do print r0
  ret
`, 2, 1)
}

// While something is called, what was taken is held by the call alone.
func TestWhatCallsHold(t *testing.T) {
	counted(t, "arguments that the fn takes, and those that it does not", `
proto main
  fn 0 one
  table 1
  table 2
  do r0 ~r1 ~r2
  table 1
  table 2
  do r0 r1 r2
  ret
proto one params=1
  let 1 cells
  do print r1
  drop 0
  let 1 cells
  do print r1
  ret
`, 2, 1, 3, 3)
	counted(t, "the rest", `
proto main
  fn 0 rest
  table 1
  do r0 1 ~r1
  ret
proto rest rest
  let 1 cells
  do print r1
  drop 0
  let 1 cells
  do print r1
  ret
`, 2, 1)
	counted(t, "the fn that is called", `
proto main
  table 0
  box 1 ~0
  fn 0 f
  drop 1
  do ~r0
  let 0 cells
  do print r0
  ret
proto f ups=l1
  let 0 cells
  do print r0
  ret
`, 3, 0)
	counted(t, "arguments of a builtin", `
proto main
  table 0
  let 1 cells r0
  do print r1
  let 1 cells ~r0
  do print r1
  table 0
  seq 2 ~r0
  const 3 cells
  call 2 3 ~2
  first 2 ~2
  do print r2
  table 0
  seq 2 ~r0
  call 4 3 2
  first 4 ~4
  do print r4
  ret
`, 1, 0, 0, 1)
	counted(t, "operands of an operation with a handler", `
proto main
  fn 6 seen
  table 5
  field 5 "add" r6
  field 5 "neg" r6
  field 5 "lt" r6
  field 5 "index" r6
  field 5 "setindex" r6
  field 5 "call" r6
  field 5 "each" r6
  table 0
  do setkind r0 r5
  table 1
  binary 0 add ~0 ~1
  table 0
  do setkind r0 r5
  table 1
  binary 2 add 0 1
  drop 1
  drop 2
  unary 2 neg ~0
  table 0
  do setkind r0 r5
  const 1 1
  binary 2 gt ~1 ~0
  table 0
  do setkind r0 r5
  table 1
  index 2 ~0 ~1
  table 0
  do setkind r0 r5
  table 1
  table 2
  set ~0 ~1 ~2
  table 0
  do setkind r0 r5
  do ~r0
  ret
`+seen, 9, 11, 9, 9, 9, 9, 9)
	counted(t, "the table of each", `
proto main
  fn 6 seen
  table 5
  field 5 "each" ~r6
  table 0
  do setkind r0 ~r5
  try caught 0
  jump on
caught:
  ret
on:
  endtry
  each 0
  ret
`+seen, 1)
	counted(t, "a handler each that was taken on: the table is let go of while it is called, and for good", `
proto main
  fn 4 handler
  table 5
  field 5 "each" ~r4
  table 0
  do setkind r0 ~r5
  each 0
  eachnext 0 end 2
  drop 2
end:
  let 2 cells
  do print r2
  ret
proto handler params=1
  let 1 cells
  do print r1
  drop 0
  let 1 cells
  do print r1
  ret read
`, 4, 1, 0)
	counted(t, "what is gone through by calls", `
proto main
  table 0
  box 1 ~0
  fn 0 f
  drop 1
  each 0
  eachnext 0 end 2
  drop 2
end:
  ret
proto f ups=l1
  let 0 cells
  do print r0
  ret
`, 3)
	counted(t, "a value that is thrown", `
proto main
  fn 0 seen
  try caught 1
  scope 1
  later r0
  table 1
  throw ~1
caught:
  do r0
  drop 1
  do r0
  ret
`+seen, 2, 2, 1)
}

func TestWhatGuardsHold(t *testing.T) {
	counted(t, "the fn of a defer, and what it closes over", `
proto main
  table 0
  box 1 ~0
  fn 0 f
  drop 1
  scope 0
  later ~r0
  let 1 cells
  do print r1
  leave
  let 1 cells
  do print r1
  ret
proto f ups=l1
  let 0 cells
  do print r0
  ret
`, 3, 3, 0)
	counted(t, "what is kept for defers, until it is called", `
proto main
  fn 0 seen
  scope 1
  table 1
  later type ~r1
  table 1
  later r0 ~r1
  table 1
  later r0 ~r1
  let 1 cells
  do print r1
  leave
  let 1 cells
  do print r1
  ret
`+seen, 4, 3, 2, 1)
}

func TestListsThatAreBeingReturned(t *testing.T) {
	counted(t, "a list that was taken", `
proto main
  fn 0 f
  fn 1 seen
  do r0 r1
  let 2 cells
  do print r2
  ret
proto f params=1
  scope 1
  later r0
  scope 1
  later r0
  table 1
  table 2
  seq 3 ~r1
  return ~3
`+seen, 3, 3, 2)
	counted(t, "a list that was not taken, in a register that is kept", `
proto main
  fn 0 f
  fn 1 seen
  do r0 r1
  ret
proto f params=1
  table 1
  seq 2 ~r1
  scope 3
  later r0
  return 2
`+seen, 3)
	counted(t, "an error takes the list's place", `
proto main
  fn 0 f
  fn 1 seen
  try caught 2
  do r0 r1
  endtry
  ret
caught:
  ret
proto f params=1
  scope 1
  later r0
  scope 1
  later r0
  later setkind
  later r0
  table 1
  seq 2 ~r1
  return ~2
`+seen, 3, 5, 5)
	counted(t, "another error takes the error's place", `
proto main
  fn 0 seen
  fn 1 throw
  try caught 2
  scope 2
  later r0
  later r1
  later r0
  later setkind
  later r0
  table 2
  throw ~2
caught:
  drop 2
  drop 3
  do r0
  ret
proto throw
  table 0
  field 0 1 1
  field 0 2 1
  field 0 3 1
  throw ~0
`+seen, 3, 5, 6, 2)
	counted(t, "an error in a defer beside the one that is on its way", `
proto main
  fn 0 seen
  fn 1 f
  try caught 2
  scope 2
  later r0
  later r1 r0
  table 2
  throw ~2
caught:
  ret
proto f params=1
  try caught 1
  scope 1
  later r0
  table 1
  field 1 1 1
  throw ~1
caught:
  drop 1
  drop 2
  do r0
  ret
`+seen, 5, 3, 3)
}

func TestWhatTasksReach(t *testing.T) {
	counted(t, "new, waiting, done and given up", `
proto main
  table 0
  box 1 ~0
  fn 0 f
  drop 1
  let 1 task ~r0
  let 2 cells
  do print r2
  do resume r1
  let 2 cells
  do print r2
  do resume r1
  let 2 cells
  do print r2
  drop 1
  let 2 cells
  do print r2
  ret
proto f ups=l1
  table 0
  do yield
  ret
`, 4, 5, 1, 0)
	counted(t, "a new one that is given up", `
proto main
  fn 0 f
  let 1 task ~r0
  do giveup r1
  let 2 cells
  do print r2
  ret
proto f
  ret
`, 1)
	counted(t, "a waiting one that nobody holds, and one that holds itself", `
proto main
  fn 0 f
  let 1 task r0
  do resume r1 r1
  let 2 cells
  do print r2
  drop 1
  let 2 cells
  do print r2
  ret
proto f params=1
  table 1
  do yield
  ret
`, 3, 1)
	counted(t, "those that run and are busy, without anybody who holds them", `
proto main
  table 5
  fn 0 outer
  let 0 task ~r0
  do resume ~r0
  let 0 cells
  do print r0
  ret
proto outer
  table 0
  fn 1 inner
  let 1 task ~r1
  do resume ~r1
  let 1 cells
  do print r1
  ret
proto inner
  table 0
  let 1 cells
  do print r1
  ret
`, 7, 4, 1)
	counted(t, "what is given to a resume and a yield", `
proto main
  fn 0 f
  let 1 task r0
  table 2
  do resume r1 ~r2
  let 2 cells
  do print r2
  table 2
  do resume r1 ~r2
  let 2 cells
  do print r2
  ret
proto f
  let 0 cells
  do print r0
  table 0
  all 1 yield ~r0
  let 0 cells
  do print r0
  drop 1
  let 0 cells
  do print r0
  do yield
  ret
`, 2, 2, 3, 2, 2)
	counted(t, "a task that waits in a defer holds what is on its way", `
proto main
  fn 0 f
  let 1 task ~r0
  do resume r1
  let 2 cells
  do print r2
  do resume r1
  ret
proto f
  scope 0
  later yield
  table 0
  table 1
  field 1 1 1
  seq 2 ~r1
  return ~2
`, 4)
	counted(t, "one that is given up lets go of it, and holds the last error that was dropped", `
proto main
  fn 0 seen
  fn 1 f
  let 1 task ~r1
  do resume r1 r0
  let 2 cells
  do print r2
  all 2 giveup r1
  let 3 cells
  do print r3
  ret
proto f params=1
  scope 1
  later r0
  later setkind
  later r0
  fn 1 inner
  scope 2
  later r0
  later r1 r0
  table 2
  field 2 1 1
  field 2 2 2
  throw ~2
proto inner params=1
  scope 1
  later r0
  do yield
  ret
`+seen, 7, 4, 4, 3, 6, 5)
}

func TestWeakTables(t *testing.T) {
	head := func(weak string) string {
		return `
proto main
  table 0
  table 1
  field 1 "weak" ` + weak + `
  do setkind r0 ~r1
  table 2
  table 3
`
	}
	for _, c := range []struct {
		name, weak, ins string
		before, after   int
	}{
		// The weak table, its kind with one pair, and the pairs; then what the pairs reach.
		{"weak key, not held", `"k"`, "field 0 ~r2 ~r3", 4, 3},
		{"weak key, held", `"k"`, "field 0 r2 ~r3", 6, 6},
		{"weak key, its value held", `"k"`, "field 0 ~r2 r3", 5, 4},
		{"weak key, held by its own value", `"k"`, "field 3 1 r2; field 0 ~r2 ~r3", 4, 3},
		{"weak key that is no thing", `"k"`, `drop 3; field 0 "x" ~r2`, 5, 5},
		{"weak value, not held", `"v"`, "field 0 ~r2 ~r3", 5, 3},
		{"weak value, held", `"v"`, "field 0 ~r2 r3", 6, 6},
		{"weak value, its key held", `"v"`, "field 0 r2 ~r3", 5, 4},
		{"weak value that is no thing", `"v"`, `drop 3; field 0 ~r2 "x"`, 5, 5},
		{"both weak, none held", `"kv"`, "field 0 ~r2 ~r3", 4, 3},
		{"both weak, the key held", `"vk"`, "field 0 r2 ~r3", 5, 4},
		{"both weak, the value held", `"a v and a k"`, "field 0 ~r2 r3", 5, 4},
		{"both weak, both held", `"kv"`, "field 0 r2 r3", 6, 6},
		{"a string without k and v", `"xyz"`, "field 0 ~r2 ~r3", 6, 6},
		{"capitals are others", `"KV"`, "field 0 ~r2 ~r3", 6, 6},
		{"an empty string", `""`, "field 0 ~r2 ~r3", 6, 6},
		{"no string", `true`, "field 0 ~r2 ~r3", 6, 6},
		{"a builtin is never lost", `"kv"`, "drop 2; drop 3; field 0 print read", 4, 4},
		{"a key that is the table itself", `"k"`, "drop 2; field 0 r0 ~r3", 5, 5},
		{"a value that is the table itself", `"v"`, "drop 2; drop 3; field 0 1 r0", 4, 4},
	} {
		counted(t, c.name, head(c.weak)+c.ins+`
  let 5 cells
  do print r5
  let 5 collect
  do print r5
  let 5 cells
  do print r5
  ret
`, c.before, c.after, c.after)
	}
	counted(t, "weak keys that hold one another in a chain, last one first", head(`"k"`)+`
  table 4
  table 5
  field 0 r3 ~r4
  field 0 r2 ~r3
  field 0 r5 r2
  drop 2
  let 6 cells
  do print r6
  let 6 collect
  do print r6
  drop 5
  let 6 collect
  do print r6
  ret
`, 10, 10, 3)
	counted(t, "weak keys through two tables", head(`"k"`)+`
  table 4
  let 5 kind r0
  do setkind r4 ~r5
  field 4 r2 r3
  field 0 r3 print
  drop 3
  let 5 collect
  do print r5
  drop 2
  let 5 collect
  do print r5
  ret
`, 8, 4)
	counted(t, "fns and tasks are lost as tables are", `
proto main
  table 0
  table 1
  field 1 "weak" "kv"
  do setkind r0 ~r1
  fn 1 f
  field 0 r1 1
  let 2 task r1
  field 0 2 r2
  let 3 collect
  do print r3
  drop 2
  let 3 collect
  do print r3
  drop 1
  let 3 collect
  do print r3
  ret
proto f
  ret
`, 7, 5, 3)
}

// While a handler is called, a collect in it finds what was taken held by its registers alone.
func TestWeakPairsOfWhatIsTaken(t *testing.T) {
	code := func(params, operation string) string {
		return `
proto main
  table 0
  table 1
  field 1 "weak" "v"
  do setkind r0 ~r1
  box 1 0
  table 2
  fn 3 handler
  drop 1
  field 2 "add" r3
  field 2 "index" r3
  field 2 "setindex" r3
  field 2 "call" r3
  field 2 "each" ~r3
  table 3
  do setkind r3 ~r2
  field 0 "first" r3
  table 4
  field 0 "second" r4
  ` + operation + `
  ret
proto handler params=` + params + ` ups=l1
  do collect
  upget 3 0
  entry 4 r3 "first"
  entry 5 r3 "second"
  do print r4 r5
  ret print
`
	}
	for _, c := range []struct{ params, operation, texts string }{
		{"2", "binary 5 add ~3 ~4", "table table"}, {"1", "binary 5 add ~3 ~4", "table nil"}, {"0", "binary 5 add ~3 ~4", "nil nil"},
		{"0", "binary 5 add 3 ~4", "table nil"}, {"0", "binary 5 add ~3 4", "nil table"},
		{"2", "index 5 ~3 ~4", "table table"}, {"1", "index 5 ~3 ~4", "table nil"}, {"0", "index 5 ~3 ~4", "nil nil"},
		{"2", "const 6 1; set ~3 ~4 ~6", "table table"}, {"0", "const 6 1; set ~3 ~4 ~6", "nil nil"}, {"0", "const 6 1; set 3 4 ~6", "table table"},
		{"3", "const 6 1; set ~3 ~6 ~4", "table table"}, {"2", "const 6 1; set ~3 ~6 ~4", "table nil"},
		{"2", "seq 5 ~r4; call 5 ~3 ~5", "table table"}, {"1", "seq 5 ~r4; call 5 ~3 ~5", "table nil"}, {"0", "seq 5 ~r4; call 5 ~3 5", "nil table"},
		{"0", "drop 4; each 3", "nil nil"}, {"1", "drop 4; each 3", "table nil"}, {"1", "move 5 3; drop 4; each 3", "table nil"},
	} {
		text := code(c.params, c.operation)
		woven := woven(text)
		got := impl.RunCode(woven, plenty())
		if got.Code != 0 || printed(got) != c.texts {
			t.Errorf("%s, %s params: want %s, got %v %s", c.operation, c.params, c.texts, impl.CheckCode(woven), reportText(got))
		}
	}
}

// Of n pairs just those stay whose weak parts are held otherwise (P11).
func TestWeakTablesOfManyPairs(t *testing.T) {
	for n := 0; n <= 40; n++ {
		for _, weak := range []string{"k", "v", "kv"} {
			c := woven(manyPairs(n, weak))
			got := impl.RunCode(c, impl.Input{Ticks: 500, Depth: 1, Cells: 500})
			// Every third key and every second value is held.
			var want []string
			for i := range n {
				keyHeld, valHeld := i%3 == 0, i%2 == 0
				if (weak == "v" || keyHeld) && (weak == "k" || valHeld) {
					want = append(want, fmt.Sprint(i))
				}
			}
			if got.Code != 0 || printed(got) != strings.Join(want, "|") {
				t.Errorf("%d pairs, %s: %v %s", n, weak, impl.CheckCode(c), reportText(got))
			}
		}
	}
}

// manyPairs fills a weak table with pairs of tables with a number each, holds some of them elsewhere, collects, and prints the numbers of the pairs that stayed.
func manyPairs(n int, weak string) string {
	code := `
proto main
  table 0
  table 1
  field 1 "weak" "` + weak + `"
  do setkind r0 ~r1
  list 1
`
	for i := range n {
		number := fmt.Sprint(i)
		code += "  table 2; field 2 1 " + number + "; table 3; field 3 1 " + number + "; field 0 r2 r3\n"
		if i%3 == 0 {
			code += "  add 1 2\n"
		}
		if i%2 == 0 {
			code += "  add 1 3\n"
		}
	}
	return code + `
  drop 2
  drop 3
  do collect
  drop 1
  each 0
round:
  eachnext 0 end 2
  pick 3 2 0
  entry 3 ~r3 1
  pick 4 2 1
  entry 4 ~r4 1
  binary 5 eq 3 ~4
  drop 4
  if ~5 same
  raise "a pair is mixed up"
same:
  do print ~r3
  drop 2
  jump round
end:
  ret
`
}
