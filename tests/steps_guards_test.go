package tests

import (
	"strconv"
	"strings"
	"testing"

	"loop.example/punch/impl"
)

func TestErrorsThatLeaveTheText(t *testing.T) {
	for _, c := range []struct{ value, told string }{
		{`"boom"`, "boom"}, {`""`, ""}, {`12`, "12"}, {`nil`, "nil"}, {`false`, "false"}, {`1.5`, "3p-1"}, {`print`, "builtin"},
	} {
		holdRun(t, ran{name: "throw of " + c.value, code: `
proto main
  line 3
  raise ` + c.value + `
`, want: `
line 0.0 3
throw 0.0 3 ` + c.told + `
= 1 ticks 1 made 0
error ` + c.told + `
trace main:3
`})
	}
	for _, c := range []struct{ code, told string }{
		{`12`, "error 12"}, {`-9223372036854775808`, "error -9223372036854775808"}, {`12.0`, "table"}, {`"12"`, "table"}, {`nil`, "table"},
	} {
		holdRun(t, ran{name: "throw of a table with code " + c.code, code: `
proto -
  table 0
  field 0 "line" 5
  field 0 "code" ` + c.code + `
  throw ~0
`, want: `
throw 0.0 0 ` + c.told + `
= 1 ticks 0 made ` + map[bool]string{true: "2", false: "3"}[c.code == "nil"] + `
error ` + c.told + `
trace fn:0
`})
	}
	holdRuns(t, []ran{
		{name: "a handler has no say in how an error is told", code: `
proto main
  table 0
  table 1
  table 2
  field 2 "code" 5
  field 1 "index" ~r2
  do setkind r0 r1
  throw ~0
`, want: `
throw 0.0 0 table
= 1 ticks 1 made 5
error table
trace main:0
`},
		{name: "an error goes through all calls", code: `
proto main
  line 1
  fn 0 outer
  line 2
  do r0
  ret
proto outer line=10
  line 11
  fn 0 -inner
  at 12
  do r0
  ret
proto -inner line=20
  line 21
  raise "x"
`, want: `
line 0.0 1
line 0.0 2
call 0.1 10 outer
line 0.1 11
call 0.2 20
line 0.2 21
throw 0.2 21 x
back 0.2 0 error
back 0.1 0 error
= 1 ticks 6 made 2
error x
trace fn:21 outer:12 main:2
`},
		{name: "an error that is changed on its way", code: `
proto main
  table 0
  fn 1 change
  scope 2
  later r1 r0
  throw ~0
proto change params=1
  field 0 "code" 77
  ret
`, want: `
throw 0.0 0 table
call 0.1 0 change
back 0.1 0
= 1 ticks 1 made 3
error error 77
trace main:0
`},
	})
}

func catchesRuns() []ran {
	return []ran{
		{name: "a throw in the same call", code: `
proto main
  line 1
  const 0 "kept"
  try caught 1
  line 2
  const 1 "lost"
  at 3
  raise "x"
caught:
  do print r0 r1 r2
  line 4
  ret
`, want: `
line 0.0 1
line 0.0 2
throw 0.0 3 x
catch 0.0 1 x
print 0.0 1 kept x main:3
line 0.0 4
= 0 ticks 4 made 0
`},
		{name: "a throw in a call", code: `
proto main
  fn 0 f
  line 5
  try caught 1
  line 6
  do r0 "arg"
  endtry
  do print "not here"
  ret
caught:
  do print r1 r2
  ret
proto f params=1 line=50
  line 51
  throw ~0
`, want: `
line 0.0 5
line 0.0 6
call 0.1 50 f
line 0.1 51
throw 0.1 51 arg
back 0.1 0 error
catch 0.0 5 arg
print 0.0 5 arg f:51 main:6
= 0 ticks 5 made 1
`},
		{name: "a guard that is off catches nothing", code: `
proto main
  line 1
  try caught 0
  line 2
  endtry
  line 3
  raise "x"
caught:
  do print "caught"
  ret
`, want: `
line 0.0 1
line 0.0 2
line 0.0 3
throw 0.0 3 x
= 1 ticks 3 made 0
error x
trace main:3
`},
		{name: "the inner one catches, and the outer one what is thrown from there", code: `
proto main
  line 1
  try outer 0
  line 2
  try inner 0
  line 3
  raise "first"
inner:
  do print r0 r1
  binary 0 join ~0 ~1
  throw ~0
outer:
  do print r0 r1
  ret
`, want: `
line 0.0 1
line 0.0 2
line 0.0 3
throw 0.0 3 first
catch 0.0 2 first
print 0.0 2 first main:3
throw 0.0 2 firstmain:3
catch 0.0 1 firstmain:3
print 0.0 1 firstmain:3 main:2
= 0 ticks 6 made 0
`},
		{name: "the line at hand behind a catch is that of the guard, for the next guard too", code: `
proto main
  line 1
  try first 0
  line 2
  raise "a"
first:
  drop 0
  drop 1
  try second 0
  line 3
  raise "b"
second:
  do print r0 r1
  drop 0
  drop 1
  at 4
  try third 0
  at 5
  raise "c"
third:
  do print r0 r1
  ret
`, want: `
line 0.0 1
line 0.0 2
throw 0.0 2 a
catch 0.0 1 a
line 0.0 3
throw 0.0 3 b
catch 0.0 1 b
print 0.0 1 b main:3
throw 0.0 5 c
catch 0.0 4 c
print 0.0 4 c main:5
= 0 ticks 5 made 0
`},
		{name: "what the machine throws is a table with code and line", code: `
proto main
  line 8
  try caught 0
  at 9
  const 0 nil
  const 1 nil
  index 2 ~0 ~1
  ret
caught:
  drop 1
  each 0
round:
  eachnext 0 end 2
  const 3 print
  call 2 ~3 ~2
  drop 2
  jump round
end:
  ret
`, want: `
line 0.0 8
throw 0.0 9 error 7
catch 0.0 8 error 7
print 0.0 8 code 7
print 0.0 8 line 9
= 0 ticks 5 made 0
`},
		{name: "an error is told as it is when it is caught", code: `
proto main
  table 0
  fn 1 change
  try caught 2
  scope 2
  later r1 r0
  throw 0
caught:
  ret r2
proto change params=1
  field 0 "code" -1
  ret
`, want: `
throw 0.0 0 table
call 0.1 0 change
back 0.1 0
catch 0.0 0 error -1
= 0 ticks 1 made 3
vals table
`},
		{name: "a guard that is put on in a round", code: `
proto main
  const 0 1
  const 1 3
  const 2 1
  for 0
  jump test
round:
  line 1
  try caught 3
  at 2
  throw 0
caught:
  drop 3
  drop 4
  fornext 0 test
  jump end
test:
  fortest 0 end
  jump round
end:
  ret
`, want: `
line 0.0 1
throw 0.0 2 1
catch 0.0 1 1
line 0.0 1
throw 0.0 2 2
catch 0.0 1 2
line 0.0 1
throw 0.0 2 3
catch 0.0 1 3
= 0 ticks 3 made 0
`},
		{name: "what was put in below the keep stays, what was put in above is gone", code: `
proto main
  const 0 "old"
  const 1 "old"
  try caught 2
  const 0 "new"
  table 3
  const 4 "gone"
  raise "x"
caught:
  let 4 cells
  do print r0 r1 r2 r4
  ret
`, want: `
throw 0.0 0 x
catch 0.0 0 x
print 0.0 0 new old x 0
= 0 ticks 2 made 1
`},
	}
}

func TestCatches(t *testing.T) { holdRuns(t, catchesRuns()) }

// deferring puts on a guard with three defers, at lines 1 to 3, and goes on as it is said. The fn tells of its argument.
func deferring(then string) string {
	return `
proto main
  fn 0 tell
  const 1 "kept"
  line 9
  scope 2
  at 1
  later r0 "a"
  at 2
  later print "b"
  at 3
  later r0 "c" "d"
  at 4
` + then + `
proto tell params=1 line=30
  do print r0
  at 31
  ret "dropped"
`
}

func defersRuns() []ran {
	defers := `
call 0.1 30 tell
print 0.1 0 c
back 0.1 0
print 0.0 2 b
call 0.1 30 tell
print 0.1 0 a
back 0.1 0
`
	return []ran{
		{name: "left one by one", code: deferring(`
  leave
  do print "behind" r1
  ret 5
`), want: "line 0.0 9" + defers + `
print 0.0 4 behind kept
= 0 ticks 7 made 1
vals 5
`},
		{name: "left by a return", code: deferring(`
  ret 5 6
`), want: "line 0.0 9" + defers + `
= 0 ticks 6 made 1
vals 5 6
`},
		{name: "left by a throw", code: deferring(`
  raise "x"
`), want: "line 0.0 9\nthrow 0.0 4 x" + defers + `
= 1 ticks 6 made 1
error x
trace main:4
`},
		{name: "left by an error of the machine", code: deferring(`
  const 2 1
  unary 2 len ~2
  ret
`), want: "line 0.0 9\nthrow 0.0 4 error 1" + defers + `
= 1 ticks 6 made 1
error error 1
trace main:4
`},
		{name: "no defers", code: `
proto main
  scope 0
  scope 10
  leave
  line 1
  ret
`, want: `
line 0.0 1
= 0 ticks 1 made 0
`},
		{name: "defers of a call that is left", code: `
proto main
  fn 0 f
  line 1
  do r0 "no error"
  try caught 1
  at 2
  do r0 nil
  endtry
  ret
caught:
  do print r1 r2
  ret
proto f params=1 line=40
  line 41
  scope 1
  later print "deferred"
  at 42
  unless 0 throwing
  ret
throwing:
  raise "x"
`, want: `
line 0.0 1
call 0.1 40 f
line 0.1 41
print 0.1 41 deferred
back 0.1 0
call 0.1 40 f
line 0.1 41
throw 0.1 42 x
print 0.1 41 deferred
back 0.1 0 error
catch 0.0 1 x
print 0.0 1 x f:42 main:2
= 0 ticks 8 made 1
`},
		{name: "a return passes guards of both sorts", code: `
proto main
  line 1
  scope 0
  later print "outer"
  at 2
  try caught 0
  scope 0
  later print "inner"
  at 3
  try caught2 0
  ret "r"
caught:
  do print "caught"
  ret
caught2:
  drop 0
  drop 1
  do print "caught"
  ret
`, want: `
line 0.0 1
print 0.0 2 inner
print 0.0 1 outer
= 0 ticks 3 made 0
vals r
`},
		{name: "an error is caught between two guards with defers", code: `
proto main
  line 1
  scope 0
  later print "outer"
  at 2
  try caught 0
  at 3
  scope 0
  later print "inner"
  at 4
  raise "x"
caught:
  do print "caught" r0 r1
  drop 0
  drop 1
  leave
  do print "end"
  ret
`, want: `
line 0.0 1
throw 0.0 4 x
print 0.0 3 inner
catch 0.0 2 x
print 0.0 2 caught x main:4
print 0.0 1 outer
print 0.0 2 end
= 0 ticks 5 made 0
`},
		{name: "a defer of a defer", code: `
proto main
  fn 0 f
  scope 1
  later r0 "one"
  raise "x"
proto f params=1
  line 5
  scope 1
  later print r0 "inner"
  at 6
  do print r0
  ret
`, want: `
throw 0.0 0 x
call 0.1 0 f
line 0.1 5
print 0.1 6 one
print 0.1 5 one inner
back 0.1 0
= 1 ticks 4 made 1
error x
trace main:0
`},
		{name: "the arguments are those of the time of the defer", code: `
proto main
  const 0 "then"
  seq 1 r0
  scope 2
  const 2 print
  defer 2 1
  const 0 "now"
  add 1 0
  const 2 nil
  leave
  const 2 print
  call 1 ~2 ~1
  return ~1
`, want: `
print 0.0 0 then
print 0.0 0 then now
= 0 ticks 2 made 0
`},
		{name: "a defer that catches its own errors", code: `
proto main
  fn 0 f
  line 1
  scope 1
  later r0
  at 2
  raise "x"
proto f
  line 5
  try caught 0
  line 6
  raise "y"
caught:
  ret
`, want: `
line 0.0 1
throw 0.0 2 x
call 0.1 0 f
line 0.1 5
line 0.1 6
throw 0.1 6 y
catch 0.1 5 y
back 0.1 0
= 1 ticks 4 made 1
error x
trace main:2
`},
	}
}

func TestDefers(t *testing.T) { holdRuns(t, defersRuns()) }

// failingDefers puts on a guard with the defers a, throw of "first" (line 2), b, an error of a builtin (line 4), c.
func failingDefers(around, then string) string {
	return `
proto main
  fn 0 throw
` + around + `
  scope 1
  at 1
  later print "a"
  at 2
  later r0 "first"
  at 3
  later print "b"
  at 4
  later setkind nil
  at 5
  later print "c"
  at 6
` + then + `
proto throw params=1 line=20
  at 21
  throw ~0
`
}

func TestErrorsOutOfDefers(t *testing.T) {
	defers := `
print 0.0 5 c
throw 0.0 4 error 12
print 0.0 3 b
call 0.1 20 throw
throw 0.1 21 first
back 0.1 0 error
print 0.0 1 a
`
	holdRuns(t, []ran{
		{name: "when an error is on its way", code: failingDefers("", `
  raise "x"
`), want: "throw 0.0 6 x" + defers + `
= 1 ticks 5 made 1
error first
trace throw:21 main:2
`},
		{name: "when a list is being returned", code: failingDefers("", `
  ret "lost"
`), want: defers + `
= 1 ticks 5 made 1
error first
trace throw:21 main:2
`},
		{name: "when a guard is left", code: failingDefers("", `
  leave
  do print "not here"
  ret
`), want: defers + `
= 1 ticks 5 made 1
error first
trace throw:21 main:2
`},
		{name: "the error of a builtin is the last", code: `
proto main
  line 1
  scope 0
  later setkind 5
  at 2
  later read
  at 3
  ret "lost"
`, want: `
line 0.0 1
throw 0.0 1 error 12
= 1 ticks 3 made 0
error error 12
trace main:1
`},
	})
	caught := defers + `
catch 0.0 0 first
print 0.0 0 first throw:21 main:2
= 0 ticks 6 made 1
vals caught
`
	for _, c := range []struct{ name, then, ahead string }{
		{"an error that leaves a defer of an error", `raise "x"`, "throw 0.0 6 x"},
		{"an error that leaves a defer of a return", `ret "lost"`, ""},
		{"an error that leaves a defer of a leave", `leave; endtry; ret "not here"`, ""},
	} {
		holdRun(t, ran{name: c.name + " is caught around it", code: failingDefers("try caught 1", c.then+`
caught:
  do print r1 r2
  ret "caught"
`), want: c.ahead + caught})
	}
}

// An error out of a defer of a return goes on through the guards that are left: outer defers are run, an outer guard catches.
func errorsInsteadOfReturnsRuns() []ran {
	return []ran{
		{name: "out of a call", code: `
proto main
  fn 0 f
  line 1
  try caught 1
  at 2
  do r0
  endtry
  ret
caught:
  do print r1 r2
  ret
proto f
  line 10
  scope 0
  later print "outer"
  at 11
  scope 0
  later resume
  at 12
  ret "lost"
`, want: `
line 0.0 1
call 0.1 0 f
line 0.1 10
throw 0.1 11 error 12
print 0.1 10 outer
back 0.1 0 error
catch 0.0 1 error 12
print 0.0 1 table f:11 main:2
= 0 ticks 6 made 1
`},
		{name: "the line at hand is as before again", code: `
proto main
  line 1
  scope 0
  later print "in"
  line 2
  leave
  do print "behind"
  raise "x"
`, want: `
line 0.0 1
line 0.0 2
print 0.0 1 in
print 0.0 2 behind
throw 0.0 2 x
= 1 ticks 4 made 0
error x
trace main:2
`},
		{name: "behind a failing defer too: outer defers and their errors have lines of their own", code: `
proto main
  line 1
  scope 0
  later print "outer"
  line 2
  scope 0
  later task
  line 3
  later status
  line 4
  leave
  ret
`, want: `
line 0.0 1
line 0.0 2
line 0.0 3
line 0.0 4
throw 0.0 3 error 12
throw 0.0 2 error 12
print 0.0 1 outer
= 1 ticks 7 made 0
error error 12
trace main:2
`},
	}
}

func TestErrorsInsteadOfReturns(t *testing.T) { holdRuns(t, errorsInsteadOfReturnsRuns()) }

// What registers hold while defers are run is seen by cells: those from the keep on are let go of by an error and a return, not by leave.
func TestKeepsOfDefers(t *testing.T) {
	code := func(keep, then string) string {
		return `
proto main
  fn 0 tell
  scope 2
  later r0
  table 2
  table 3
  table 4
  ` + keep + `
  ` + then + `
proto tell
  let 0 cells
  do print r0
  ret
`
	}
	for _, c := range []struct{ name, keep, then, cells, end string }{
		{"error", "", `raise "x"`, "1", "= 1 ticks 3 made 4\nerror x\ntrace main:0"},
		{"error, another keep", "keep 4", `raise "x"`, "3", "= 1 ticks 3 made 4\nerror x\ntrace main:0"},
		{"error, keep of all", "keep 10", `raise "x"`, "4", "= 1 ticks 3 made 4\nerror x\ntrace main:0"},
		{"error, keep of none", "keep 0", `raise "x"`, "1", "= 1 ticks 3 made 4\nerror x\ntrace main:0"},
		{"return", "", `ret`, "1", "= 0 ticks 3 made 4"},
		{"return, another keep", "keep 3", `ret`, "2", "= 0 ticks 3 made 4"},
		{"leave", "", `leave; ret`, "4", "= 0 ticks 3 made 4"},
		{"leave, another keep", "keep 1", `leave; ret`, "4", "= 0 ticks 3 made 4"},
	} {
		told := ""
		if strings.HasPrefix(c.name, "error") {
			told = "throw 0.0 0 x"
		}
		holdRun(t, ran{name: c.name, code: code(c.keep, c.then), want: told + `
call 0.1 0 tell
print 0.1 0 ` + c.cells + `
back 0.1 0
` + c.end})
	}
	holdRuns(t, keepsOfLeaveRuns())
}

func keepsOfLeaveRuns() []ran {
	return []ran{{name: "an error out of a defer of leave lets go of the registers from the keep on", code: `
proto main
  fn 0 tell
  fn 1 throw
  scope 2
  later r0 "third"
  later r1
  later r0 "first"
  table 2
  table 3
  keep 3
  leave
  ret
proto tell params=1
  let 1 cells
  do print r0 r1
  ret
proto throw
  raise "x"
`, want: `
call 0.1 0 tell
print 0.1 0 first 4
back 0.1 0
call 0.2 0 throw
throw 0.2 0 x
back 0.2 0 error
call 0.1 0 tell
print 0.1 0 third 3
back 0.1 0
= 1 ticks 7 made 4
error x
trace throw:0 main:0
`}}
}

// nested is n guards, one in the other, each with a defer that prints its number, and behind them what is said.
func nested(n int, then string) string {
	guards := ""
	for i := range n {
		guards += "  at " + strconv.Itoa(i+1) + "; scope 0; later print " + strconv.Itoa(i+1) + "\n"
	}
	return "proto main\n" + guards + then
}

// Of up to 40 guards each is run once, the innermost first (P10).
func TestGuardsOneInTheOther(t *testing.T) {
	for n := 0; n <= 40; n++ {
		var texts []string
		for i := n; i > 0; i-- {
			texts = append(texts, strconv.Itoa(i))
		}
		want := strings.Join(texts, "|")
		for _, c := range []struct {
			then string
			code int
		}{
			{`raise "x"`, 1}, {"ret", 0}, {strings.Repeat("leave\n", n) + "ret", 0}, {strings.Repeat("leave\n", n/2) + "ret", 0}, {strings.Repeat("leave\n", n/3) + `raise "x"`, 1},
		} {
			code := woven(nested(n, c.then))
			got := impl.RunCode(code, plenty())
			if got.Code != c.code || printed(got) != want || got.Ticks != n {
				t.Errorf("%d guards, %.10q: %s", n, c.then, reportText(got))
			}
			for _, r := range got.Recs {
				if r.Kind == impl.RecPrint && r.Text != strconv.Itoa(r.Line) {
					t.Errorf("%d guards, %.10q: a line is wrong: %s", n, c.then, reportText(got))
				}
			}
			if n%10 == 0 {
				holdEveryRun(t, "guards", code, plenty(), got)
			}
		}
	}
}

// Of 50 guards in one call all are left, too; and guards of all calls.
func TestGuardsOfManyCalls(t *testing.T) {
	code := `
proto main
  fn 0 f
` + strings.Repeat("  scope 1; later print \"main\"\n", impl.MaxGuards) + `
  do r0
  ret
proto f
` + strings.Repeat("  scope 0; later print \"f\"\n", impl.MaxGuards) + `
  raise "x"
`
	got := impl.RunCode(woven(code), plenty())
	want := strings.TrimSuffix(strings.Repeat("f|", 50)+strings.Repeat("main|", 50), "|")
	if printed(got) != want || got.Code != 1 || got.Ticks != 101 || got.Trace != "f:0 main:0" {
		t.Errorf("%.3000s", reportText(got))
	}
}
