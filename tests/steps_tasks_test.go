package tests

import (
	"strconv"
	"strings"
	"testing"

	"loop.example/punch/impl"
)

func tasksYieldAndEndRuns() []ran {
	return []ran{
		{name: "values there and back", code: `
proto main
  fn 0 f
  let 1 task ~r0
  line 1
  all 2 resume r1 "a" "b" "c"
  const 3 print
  call 2 ~3 ~2
  drop 2
  line 2
  all 2 resume r1 "d" "e"
  const 3 print
  call 2 ~3 ~2
  drop 2
  line 3
  all 2 resume r1
  return ~2
proto f params=2 line=20
  line 21
  do print r0 r1
  all 2 yield r1 r0
  line 22
  const 3 print
  call 2 ~3 ~2
  drop 2
  all 2 yield
  line 23
  const 3 print
  call 2 ~3 ~2
  ret "end" r0
`, want: `
line 0.0 1
turn 1.0 0 resume
call 1.1 20 f
line 1.1 21
print 1.1 21 a b
turn 0.0 0 yield
print 0.0 1 true b a
line 0.0 2
turn 1.0 0 resume
line 1.1 22
print 1.1 22 d e
turn 0.0 0 yield
print 0.0 2 true
line 0.0 3
turn 1.0 0 resume
line 1.1 23
print 1.1 23
back 1.1 0
turn 0.0 0 done
= 0 ticks 18 made 2
vals true end a
`},
		{name: "a task that throws", code: `
proto main
  fn 0 f
  let 1 task ~r0
  line 1
  all 2 resume r1 "x"
  pick 3 2 0
  pick 4 2 1
  pick 5 2 2
  do print r3 r4 r5
  let 3 status r1
  ret r3
proto f params=1
  line 20
  throw ~0
`, want: `
line 0.0 1
turn 1.0 0 resume
call 1.1 0 f
line 1.1 20
throw 1.1 20 x
back 1.1 0 error
turn 0.0 0 error
print 0.0 1 false x f:20
= 0 ticks 7 made 2
vals done
`},
		{name: "a yield in a call of the task, and a guard around it", code: `
proto main
  fn 0 outer
  let 1 task ~r0
  all 2 resume r1
  do print "between"
  drop 2
  all 2 resume r1 "go"
  return ~2
proto outer
  fn 0 inner
  line 10
  try caught 1
  line 11
  do r0
  endtry
  ret
caught:
  ret r1 r2
proto inner
  line 20
  let 0 yield 1
  throw ~0
`, want: `
turn 1.0 0 resume
call 1.1 0 outer
line 1.1 10
line 1.1 11
call 1.2 0 inner
line 1.2 20
turn 0.0 0 yield
print 0.0 0 between
turn 1.0 0 resume
throw 1.2 20 go
back 1.2 0 error
catch 1.1 10 go
back 1.1 0
turn 0.0 0 done
= 0 ticks 10 made 3
vals true go inner:20 outer:11
`},
		{name: "an iterator that is a task", code: `
proto main
  fn 0 counter
  let 1 task ~r0
  box 2 ~1
  fn 0 next
  drop 2
  each 0
round:
  eachnext 0 end 3
  const 4 print
  call 3 ~4 ~3
  drop 3
  jump round
end:
  ret
proto counter
  do yield 1
  do yield 2
  ret
proto next ups=l2
  upget 0 0
  all 1 resume ~r0
  pick 2 1 1
  ret r2
`, want: `
call 0.2 0 next
turn 1.0 0 resume
call 1.1 0 counter
turn 0.0 0 yield
back 0.2 0
print 0.0 0 1
call 0.2 0 next
turn 1.0 0 resume
turn 0.0 0 yield
back 0.2 0
print 0.0 0 2
call 0.2 0 next
turn 1.0 0 resume
back 1.1 0
turn 0.0 0 done
back 0.2 0
= 0 ticks 15 made 4
`},
	}
}

func TestTasksYieldAndEnd(t *testing.T) { holdRuns(t, tasksYieldAndEndRuns()) }

func statesOfTasksRuns() []ran {
	return []ran{
		{name: "new, running, busy, waiting and done", code: `
proto main
  const 0 nil
  box 1 ~0
  fn 0 outer
  let 2 task ~r0
  put 1 2
  fn 0 inner
  let 3 task ~r0
  let 4 status r2
  do print r4
  do resume r2 r3
  let 4 status r2
  do print r4
  do resume r2
  let 4 status r2
  do print r4
  ret
proto outer params=1 ups=l1
  upget 1 0
  let 2 status r1
  do print r2
  do resume r0
  do yield
  ret
proto inner ups=l1
  upget 0 0
  let 1 status r0
  do print r1
  ret
`, want: `
print 0.0 0 new
turn 1.0 0 resume
call 1.1 0 outer
print 1.1 0 running
turn 2.0 0 resume
call 2.2 0 inner
print 2.2 0 busy
back 2.2 0
turn 1.0 0 done
turn 0.0 0 yield
print 0.0 0 waiting
turn 1.0 0 resume
back 1.1 0
turn 0.0 0 done
print 0.0 0 done
= 0 ticks 18 made 6
`},
		{name: "a task that resumes itself, and the one that waits for it", code: `
proto main
  const 0 nil
  box 1 ~0
  fn 0 outer
  let 2 task ~r0
  put 1 2
  fn 0 inner
  let 3 task ~r0
  do resume r2 r3
  ret
proto outer params=1 ups=l1 line=10
  upget 1 0
  try one 2
  do resume r1
  endtry
  ret
one:
  drop 2
  drop 3
  try two 2
  do giveup r1
  endtry
  ret
two:
  drop 2
  drop 3
  all 2 resume r0
  const 3 print
  call 2 ~3 ~2
  ret
proto inner ups=l1 line=20
  upget 0 0
  try one 1
  at 21
  do giveup r0
  endtry
  ret
one:
  drop 1
  drop 2
  at 22
  do resume r0
  ret
`, want: `
turn 1.0 0 resume
call 1.1 10 outer
throw 1.1 0 error 10
catch 1.1 0 error 10
throw 1.1 0 error 10
catch 1.1 0 error 10
turn 2.0 0 resume
call 2.2 20 inner
throw 2.2 21 error 10
catch 2.2 0 error 10
throw 2.2 22 error 10
back 2.2 0 error
turn 1.0 0 error
print 1.1 0 false table inner:22
back 1.1 0
turn 0.0 0 done
= 0 ticks 11 made 6
`},
		{name: "a task that is done is not resumed again", code: `
proto main
  fn 0 f
  let 1 task ~r0
  do resume r1
  line 2
  do resume r1
  ret
proto f
  ret
`, want: `
turn 1.0 0 resume
call 1.1 0 f
back 1.1 0
turn 0.0 0 done
line 0.0 2
throw 0.0 2 error 10
= 1 ticks 5 made 2
error error 10
trace main:2
`},
		{name: "a task that is done is not given up", code: `
proto main
  fn 0 f
  let 1 task ~r0
  all 2 giveup r1
  const 3 print
  call 2 ~3 ~2
  drop 2
  let 2 status r1
  do print r2
  do giveup r1
  ret
proto f
  ret
`, want: `
print 0.0 0 true
print 0.0 0 done
throw 0.0 0 error 10
= 1 ticks 6 made 2
error error 10
trace main:0
`},
	}
}

func TestStatesOfTasks(t *testing.T) { holdRuns(t, statesOfTasksRuns()) }

// A yield without anybody who waits for it.
func yieldsThatFailRuns() []ran {
	return []ran{
		{name: "in the text", code: `
proto main
  line 1
  do yield 1
  ret
`, want: `
line 0.0 1
throw 0.0 1 error 10
= 1 ticks 2 made 0
error error 10
trace main:1
`},
		{name: "in a call of the text", code: `
proto main
  fn 0 f
  do r0
  ret
proto f
  line 5
  do yield
  ret
`, want: `
call 0.1 0 f
line 0.1 5
throw 0.1 5 error 10
back 0.1 0 error
= 1 ticks 3 made 1
error error 10
trace f:5 main:0
`},
		{name: "in a task that is given up", code: `
proto main
  fn 0 f
  let 1 task ~r0
  do resume r1
  all 2 giveup r1
  pick 3 2 0
  pick 4 2 1
  pick 5 2 2
  entry 4 ~r4 "code"
  ret r3 r4 r5
proto f
  line 5
  scope 0
  later yield "from the defer"
  at 6
  do yield
  ret
`, want: `
turn 1.0 0 resume
call 1.1 0 f
line 1.1 5
turn 0.0 0 yield
turn 1.0 0 giveup
throw 1.1 5 error 10
back 1.1 0 gone
turn 0.0 0 gone
= 0 ticks 7 made 2
vals false 10 f:5
`},
		{name: "in a last word, of the text and of a task", code: `
proto main
  fn 0 dying
  let 1 task r0
  do resume r1
  do r0
  ret
proto dying
  table 0
  table 1
  fn 2 last
  field 1 "last" ~r2
  do setkind ~r0 ~r1
  line 5
  do collect
  ret
proto last params=1
  line 7
  do yield
  ret
`, want: `
turn 1.0 0 resume
call 1.1 0 dying
line 1.1 5
last 1.0 0
call 1.2 0 last
line 1.2 7
throw 1.2 7 error 10
back 1.2 0 error
catch 1.0 0 error 10
back 1.1 0
turn 0.0 0 done
call 0.1 0 dying
line 0.1 5
last 0.0 0
call 0.2 0 last
line 0.2 7
throw 0.2 7 error 10
back 0.2 0 error
catch 0.0 0 error 10
back 0.1 0
= 0 ticks 16 made 10
`},
		{name: "in another task than the one in which the last word was begun, it is no error", code: `
proto main
  table 0
  table 1
  fn 2 last
  field 1 "last" ~r2
  do setkind ~r0 ~r1
  do collect
  ret
proto last params=1
  fn 1 f
  let 1 task ~r1
  let 2 resume r1
  do print r2
  let 2 resume r1
  ret
proto f
  do yield
  ret
`, want: `
last 0.0 0
call 0.1 0 last
turn 1.0 0 resume
call 1.2 0 f
turn 0.0 0 yield
print 0.1 0 true
turn 1.0 0 resume
back 1.2 0
turn 0.0 0 done
back 0.1 0
= 0 ticks 9 made 6
`},
		{name: "behind the last word it is no error", code: `
proto main
  fn 0 f
  let 1 task ~r0
  do resume r1
  ret
proto f
  table 0
  table 1
  fn 2 last
  field 1 "last" ~r2
  do setkind ~r0 ~r1
  do collect
  do yield
  ret
proto last
  ret
`, want: `
turn 1.0 0 resume
call 1.1 0 f
last 1.0 0
call 1.2 0 last
back 1.2 0
turn 0.0 0 yield
= 0 ticks 7 made 6
`},
	}
}

func TestYieldsThatFail(t *testing.T) { holdRuns(t, yieldsThatFailRuns()) }

func givingUpRuns() []ran {
	return []ran{
		{name: "all calls are left, from the inside", code: `
proto main
  fn 0 outer
  let 1 task ~r0
  do resume r1
  line 2
  all 2 giveup r1
  const 3 print
  call 2 ~3 ~2
  let 2 status r1
  ret r2
proto outer
  fn 0 inner
  line 10
  scope 1
  later print "outer"
  at 11
  do r0
  do print "not here"
  ret
proto inner
  line 20
  try caught 0
  scope 0
  later print "inner"
  at 21
  do yield
  do print "not here"
  ret
caught:
  do print "not here"
  ret
`, want: `
turn 1.0 0 resume
call 1.1 0 outer
line 1.1 10
call 1.2 0 inner
line 1.2 20
turn 0.0 0 yield
line 0.0 2
turn 1.0 0 giveup
print 1.2 20 inner
back 1.2 0 gone
print 1.1 10 outer
back 1.1 0 gone
turn 0.0 0 gone
print 0.0 2 true
= 0 ticks 13 made 3
vals done
`},
		{name: "errors out of defers are dropped, the last one is told", code: `
proto main
  fn 0 f
  let 1 task ~r0
  do resume r1
  line 2
  all 2 giveup r1
  return ~2
proto f
  fn 0 throw
  line 10
  scope 1
  later print "a"
  at 11
  later r0 "second"
  at 12
  try caught 1
  scope 1
  later r0 "first"
  at 13
  later print "b"
  at 14
  do yield
  ret
caught:
  do print "not here"
  ret
proto throw params=1
  at 20
  throw ~0
`, want: `
turn 1.0 0 resume
call 1.1 0 f
line 1.1 10
turn 0.0 0 yield
line 0.0 2
turn 1.0 0 giveup
print 1.1 13 b
call 1.2 0 throw
throw 1.2 20 first
back 1.2 0 error
call 1.2 0 throw
throw 1.2 20 second
back 1.2 0 error
print 1.1 10 a
back 1.1 0 gone
turn 0.0 0 gone
= 0 ticks 11 made 3
vals false second throw:20 f:11
`},
		{name: "a defer in a task that is given up may do all else", code: `
proto main
  fn 0 f
  let 1 task ~r0
  do resume r1 r1
  fn 2 other
  let 2 task ~r2
  all 3 giveup r1
  return ~3
proto f params=1
  fn 1 busy
  scope 2
  later r1 r0
  do yield
  ret
proto busy params=1
  let 1 status r0
  do print r1
  fn 1 third
  let 1 task ~r1
  do resume r1 r0
  try caught 2
  do giveup r0
  endtry
  ret
caught:
  entry 4 r2 "code"
  do print "caught" r4
  ret
proto third params=1
  let 1 status r0
  do print r1
  do yield
  ret
proto other
  ret
`, want: `
turn 1.0 0 resume
call 1.1 0 f
turn 0.0 0 yield
turn 1.0 0 giveup
call 1.2 0 busy
print 1.2 0 running
turn 3.0 0 resume
call 3.3 0 third
print 3.3 0 busy
turn 1.0 0 yield
throw 1.2 0 error 10
catch 1.2 0 error 10
print 1.2 0 caught 10
back 1.2 0
back 1.1 0 gone
turn 0.0 0 gone
= 0 ticks 17 made 7
vals true
`},
		{name: "an error on its way is let go of", code: `
proto main
  fn 0 f
  let 1 task ~r0
  do resume r1
  all 2 giveup r1
  return ~2
proto f
  line 10
  try caught 0
  scope 0
  later print "left"
  at 11
  later yield
  at 12
  later print "first"
  at 13
  raise "lost"
caught:
  do print "not here"
  ret
`, want: `
turn 1.0 0 resume
call 1.1 0 f
line 1.1 10
throw 1.1 13 lost
print 1.1 12 first
turn 0.0 0 yield
turn 1.0 0 giveup
print 1.1 10 left
back 1.1 0 gone
turn 0.0 0 gone
= 0 ticks 8 made 2
vals true
`},
		{name: "a return on its way is let go of", code: `
proto main
  fn 0 f
  let 1 task ~r0
  do resume r1
  all 2 giveup r1
  return ~2
proto f
  line 10
  scope 0
  later status
  at 11
  later yield
  at 12
  ret "lost"
`, want: `
turn 1.0 0 resume
call 1.1 0 f
line 1.1 10
turn 0.0 0 yield
turn 1.0 0 giveup
throw 1.1 10 error 12
back 1.1 0 gone
turn 0.0 0 gone
= 0 ticks 7 made 2
vals false table f:10
`},
		{name: "a guard that is being left one by one is left for good", code: `
proto main
  fn 0 f
  let 1 task ~r0
  do resume r1
  all 2 giveup r1
  return ~2
proto f
  line 10
  scope 0
  later print "outer"
  at 11
  scope 0
  later print "second"
  at 12
  later yield
  at 13
  leave
  do print "not here"
  ret
`, want: `
turn 1.0 0 resume
call 1.1 0 f
line 1.1 10
turn 0.0 0 yield
turn 1.0 0 giveup
print 1.1 11 second
print 1.1 10 outer
back 1.1 0 gone
turn 0.0 0 gone
= 0 ticks 8 made 2
vals true
`},
		{name: "a yield in a handler", code: `
proto main
  fn 0 f
  let 1 task ~r0
  do resume r1
  all 2 giveup r1
  return ~2
proto f
  table 0
  table 1
  fn 2 handler
  field 1 "add" ~r2
  do setkind r0 ~r1
  const 1 1
  scope 5
  later print "left"
  binary 0 add ~0 ~1
  ret
proto handler
  do yield
  ret
`, want: `
turn 1.0 0 resume
call 1.1 0 f
call 1.2 0 handler
turn 0.0 0 yield
turn 1.0 0 giveup
back 1.2 0 gone
print 1.1 0 left
back 1.1 0 gone
turn 0.0 0 gone
= 0 ticks 8 made 6
vals true
`},
		{name: "a yield in a defer that is resumed", code: `
proto main
  fn 0 f
  let 1 task ~r0
  do resume r1
  all 2 resume r1
  return ~2
proto f
  line 10
  scope 0
  later print "left"
  at 11
  later yield
  at 12
  raise "x"
`, want: `
turn 1.0 0 resume
call 1.1 0 f
line 1.1 10
throw 1.1 12 x
turn 0.0 0 yield
turn 1.0 0 resume
print 1.1 10 left
back 1.1 0 error
turn 0.0 0 error
= 0 ticks 7 made 2
vals false x f:12
`},
	}
}

func TestGivingUp(t *testing.T) { holdRuns(t, givingUpRuns()) }

// Of a task that is given up under up to 20 guards all defers are run (P11).
func TestGivingUpUnderGuards(t *testing.T) {
	for n := 0; n <= 20; n++ {
		guards, handlers := "", ""
		var want []string
		for i := range n {
			number := strconv.Itoa(i)
			guards += "  scope 0; later print " + number + "\n"
			want = append([]string{number}, want...)
			if i%3 == 0 {
				guards += "  try h" + number + " 0\n"
				handlers += "h" + number + ":\n  throw 0\n"
			}
		}
		c := woven(`
proto main
  fn 0 f
  let 1 task ~r0
  do resume r1
  all 2 giveup r1
  return ~2
proto f
` + guards + `
  do yield
  ret
` + handlers)
		got := impl.RunCode(c, plenty())
		if got.Code != 0 || printed(got) != strings.Join(want, "|") || strings.Join(got.Vals, " ") != "true" {
			t.Errorf("%d guards: %v %s", n, impl.CheckCode(c), reportText(got))
		}
		if n%5 == 0 {
			holdEveryRun(t, "guards of a task", c, plenty(), got)
		}
	}
}

// Calls of the tasks that wait for the running one count, those of others do not.
func TestDepthOfTasks(t *testing.T) {
	code := `
proto main
  fn 0 deep
  let 1 task ~r0
  do resume r1 2
  line 1
  fn 0 plain
  do r0
  let 2 task ~r0
  line 2
  all 3 resume r2
  const 4 print
  call 3 ~4 ~3
  drop 3
  line 3
  all 3 resume r1
  const 4 print
  call 3 ~4 ~3
  ret
proto deep params=1
  line 10
  fn 1 deeper
  do r1
  do yield "again"
  line 12
  do print
  ret
proto deeper
  line 20
  do yield
  line 21
  fn 0 deepest
  do r0
  ret
proto deepest
  ret "deep enough"
proto plain
  ret "plain"
`
	with := func(depth int) *impl.Input { return &impl.Input{Ticks: 50, Depth: depth, Cells: 20} }
	begin := `
turn 1.0 0 resume
call 1.1 0 deep
line 1.1 10
call 1.2 0 deeper
line 1.2 20
turn 0.0 0 yield
line 0.0 1
call 0.4 0 plain
back 0.4 0
line 0.0 2
turn 2.0 0 resume
call 2.4 0 plain
back 2.4 0
turn 0.0 0 done
print 0.0 2 true plain
line 0.0 3
turn 1.0 0 resume
line 1.2 21
`
	holdRuns(t, []ran{
		{name: "four calls in two tasks", in: with(4), code: code, want: begin + `
call 1.3 0 deepest
back 1.3 0
back 1.2 0
turn 0.0 0 yield
print 0.0 3 true again
= 0 ticks 20 made 6
`},
		{name: "three are allowed", in: with(3), code: code, want: begin + `
throw 1.2 21 error 8
back 1.2 0 error
back 1.1 0 error
turn 0.0 0 error
print 0.0 3 false table deeper:21 deep:10
= 0 ticks 19 made 6
`},
		{name: "a task whose fn can't be called", in: with(1), code: `
proto main
  fn 0 f
  let 1 task ~r0
  line 5
  all 2 resume r1
  pick 3 2 0
  pick 4 2 1
  pick 5 2 2
  entry 6 r4 "code"
  entry 7 r4 "line"
  do print r3 r6 r7 r5
  let 3 status r1
  ret r3
proto f
  ret
`, want: `
line 0.0 5
turn 1.0 0 resume
throw 1.0 0 error 8
turn 0.0 0 error
print 0.0 5 "false 8 0 "
= 0 ticks 6 made 2
vals done
`},
	})
}

// 100 tasks are made, but not one more; those that are done count too.
func TestMaxTasks(t *testing.T) {
	code := func(n int) string {
		return `
proto main
  fn 0 f
  const 1 1
  const 2 ` + strconv.Itoa(n) + `
  const 3 1
  for 1
test:
  fortest 1 end
  let 4 task r0
  do giveup ~r4
  fornext 1 test
end:
  let 1 task r0
  ret r1
proto f
  ret
`
	}
	in := impl.Input{Ticks: 300, Depth: 1, Cells: 102}
	holdRuns(t, []ran{
		{name: "100 tasks", in: &in, code: code(impl.MaxTasks - 1), want: `
= 0 ticks 199 made 101
vals task
`},
		{name: "101 tasks", in: &in, code: code(impl.MaxTasks), want: `
throw 0.0 0 error 10
= 1 ticks 201 made 101
error error 10
trace main:0
`},
		{name: "too many tasks are told ahead of too many cells", in: &impl.Input{Ticks: 300, Depth: 1, Cells: 101}, code: code(impl.MaxTasks), want: `
throw 0.0 0 error 10
= 1 ticks 201 made 101
error error 10
trace main:0
`},
		{name: "no fn is told ahead of too many tasks", in: &in, code: strings.Replace(code(impl.MaxTasks), "let 1 task r0", "let 1 task print", 1), want: `
throw 0.0 0 error 12
= 1 ticks 201 made 101
error error 12
trace main:0
`},
	})
}

// A hundred tasks that wait for one another: each makes and resumes the next.
func TestTasksOneInTheOther(t *testing.T) {
	code := `
proto main
  const 0 nil
  box 1 ~0
  fn 2 f
  put 1 2
  do r2 ` + strconv.Itoa(impl.MaxDepth-2) + `
  ret
proto f params=1 ups=l1 regs=6
  const 1 0
  binary 1 le 0 ~1
  if ~1 end
  const 1 1
  binary 1 sub 0 ~1
  upget 2 0
  let 2 task ~r2
  all 3 resume r2 r1
  drop 2
  drop 1
  return 3
end:
  ret "innermost"
`
	in := impl.Input{Ticks: 2000, Depth: impl.MaxDepth, Cells: 500}
	c := woven(code)
	got := impl.RunCode(c, in)
	if got.Code != 0 || len(got.Recs) != 2*58+58*2+2 || got.Recs[len(got.Recs)-1].Kind != impl.RecBack {
		t.Errorf("%.3000s", reportText(got))
	}
	in.Depth--
	if got := impl.RunCode(c, in); got.Code != 0 || !throws(got, impl.ErrDepth) {
		t.Errorf("%.3000s", reportText(got))
	}
	in.Ticks = 60
	if got := impl.RunCode(c, in); got.Code != 2 || got.Ticks != 60 {
		t.Errorf("%.3000s", reportText(got))
	}
}

// Tasks that wait when the text ends, in whatever they were, are never heard of again.
func TestTasksThatStillWait(t *testing.T) {
	code := `
proto main
  fn 0 f
  let 1 task r0
  do resume r1
  let 2 task r0
  do resume r2
  let 3 task r0
  line 9
`
	fn := `
proto f
  scope 0
  later print "never"
  try caught 0
  scope 0
  later yield
  raise "x"
caught:
  do print "never"
  ret
`
	begin := `
turn 1.0 0 resume
call 1.1 0 f
throw 1.1 0 x
turn 0.0 0 yield
turn 2.0 0 resume
call 2.1 0 f
throw 2.1 0 x
turn 0.0 0 yield
line 0.0 9
`
	holdRuns(t, []ran{
		{name: "by a return", code: code + "  ret" + fn, want: begin + `= 0 ticks 10 made 4`},
		{name: "by an error", code: code + "  raise \"end\"" + fn, want: begin + `
throw 0.0 9 end
= 1 ticks 10 made 4
error end
trace main:9
`},
		{name: "by the last tick", code: code + "round: \n tick\n jump round" + fn, want: begin + `= 2 ticks 500 made 4`},
	})
}
