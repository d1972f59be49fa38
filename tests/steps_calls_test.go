package tests

import (
	"strconv"
	"strings"
	"testing"

	"loop.example/punch/impl"
)

func callsOfFnsRuns() []ran {
	return []ran{
		{name: "arguments that are missing, and too many", code: `
proto main
  line 1
  fn 0 two
  do r0 1
  do r0 1 2 3
  do r0
  line 2
  all 1 r0 "a" "b"
  return ~1
proto two params=2 regs=4 line=40
  line 41
  do print r0 r1
  ret r1 r0
`, want: `
line 0.0 1
call 0.1 40 two
line 0.1 41
print 0.1 41 1 nil
back 0.1 0
call 0.1 40 two
line 0.1 41
print 0.1 41 1 2
back 0.1 0
call 0.1 40 two
line 0.1 41
print 0.1 41 nil nil
back 0.1 0
line 0.0 2
call 0.1 40 two
line 0.1 41
print 0.1 41 a b
back 0.1 0
= 0 ticks 14 made 1
vals b a
`},
		{name: "a rest", code: `
proto main
  fn 0 rest
  do r0
  do r0 1
  do r0 1 2
  do r0 1 2 3
  ret
proto rest params=1 rest regs=5
  const 2 print
  call 1 ~2 ~1
  do print r0
  ret
`, want: `
call 0.1 0 rest
print 0.1 0
print 0.1 0 nil
back 0.1 0
call 0.1 0 rest
print 0.1 0
print 0.1 0 1
back 0.1 0
call 0.1 0 rest
print 0.1 0 2
print 0.1 0 1
back 0.1 0
call 0.1 0 rest
print 0.1 0 2 3
print 0.1 0 1
back 0.1 0
= 0 ticks 12 made 1
`},
		{name: "the line of the call around it stays", code: `
proto -
  line 3
  fn 0 -inner
  do r0
  do print "here"
  ret
proto -inner line=100000
  do print "in"
  line 9
  do print "in"
  ret
`, want: `
line 0.0 3
call 0.1 100000
print 0.1 0 in
line 0.1 9
print 0.1 9 in
back 0.1 0
print 0.0 3 here
= 0 ticks 6 made 1
`},
		{name: "a fn that calls itself", code: `
proto main
  const 0 nil
  box 1 ~0
  fn 2 fac
  put 1 2
  const 3 4
  let 4 r2 r3
  ret r4
proto fac params=1 ups=l1
  unless 0 zero
  const 1 1
  binary 1 sub 0 ~1
  const 2 0
  binary 2 lt 1 ~2
  if ~2 end
  upget 2 0
  let 3 r2 r1
  binary 3 mul 3 0
  ret r3
zero:
  ret
end:
  ret 1
`, want: `
call 0.1 0 fac
call 0.1 0 fac
call 0.1 0 fac
call 0.1 0 fac
call 0.1 0 fac
back 0.1 0
back 0.1 0
back 0.1 0
back 0.1 0
back 0.1 0
= 0 ticks 5 made 2
vals 24
`},
	}
}

func TestCallsOfFns(t *testing.T) { holdRuns(t, callsOfFnsRuns()) }

func callsOfTablesRuns() []ran {
	return []ran{
		{name: "the table comes ahead of the arguments", code: `
proto main
  table 0
  table 1
  fn 2 handler
  field 1 "call" r2
  do setkind r0 r1
  line 2
  all 3 r0 "a" "b"
  return ~3
proto handler params=3 rest regs=7
  let 4 type r0
  do print r4 r1 r2
  do rawset r0 "seen" true
  ret r2 r1
`, want: `
line 0.0 2
call 0.1 0 handler
print 0.1 0 table a b
back 0.1 0
= 0 ticks 7 made 5
vals b a
`},
		{name: "a builtin as a handler", code: `
proto main
  table 0
  table 1
  field 1 "call" print
  do setkind r0 r1
  line 4
  do r0 1 2
  ret
`, want: `
line 0.0 4
print 0.0 4 table 1 2
= 0 ticks 4 made 3
`},
		{name: "a handler that is a table with one", code: `
proto main
  table 0
  table 1
  table 2
  field 1 "call" r2
  do setkind r0 r1
  table 3
  field 3 "call" type
  do setkind r2 r3
  let 4 r0 5
  ret r4
`, want: `
= 0 ticks 5 made 6
vals table
`},
		{name: "a kind of its own", code: `
proto main
  table 0
  field 0 "call" print
  do setkind r0 r0
  do r0
  ret
`, want: `
print 0.0 0 table
= 0 ticks 3 made 2
`},
	}
}

func TestCallsOfTables(t *testing.T) { holdRuns(t, callsOfTablesRuns()) }

func TestCallsOfAnythingElse(t *testing.T) {
	for _, what := range []string{`nil`, `true`, `false`, `12`, `1.5`, `"print"`} {
		holdRun(t, ran{name: "call of " + what, code: `
proto main
  line 3
  do ` + what + ` 1
  ret
`, want: `
line 0.0 3
throw 0.0 3 error 6
= 1 ticks 2 made 0
error error 6
trace main:3
`})
	}
	holdRuns(t, []ran{
		{name: "call of a table without a kind", code: `
proto main
  table 0
  do r0
  ret
`, want: `
throw 0.0 0 error 6
= 1 ticks 1 made 1
error error 6
trace main:0
`},
		{name: "call of a table with a kind, but no handler", code: `
proto main
  table 0
  table 1
  field 1 "index" print
  field 0 "call" print
  do setkind r0 r1
  do r0
  ret
`, want: `
throw 0.0 0 error 6
= 1 ticks 2 made 4
error error 6
trace main:0
`},
		{name: "call of a task", code: `
proto main
  fn 0 f
  let 1 task r0
  do r1
  ret
proto f
  ret
`, want: `
throw 0.0 0 error 6
= 1 ticks 2 made 2
error error 6
trace main:0
`},
		{name: "a handler that can't be called", code: `
proto main
  table 0
  table 1
  field 1 "call" false
  do setkind r0 r1
  do r0
  ret
`, want: `
throw 0.0 0 error 6
= 1 ticks 3 made 3
error error 6
trace main:0
`},
	})
}

// chainOf makes n tables, each the handler (by this name) of the one ahead of it, and ends with what is given; register 0 holds the first.
func chainOf(n int, name, last string) string {
	return `
  const 0 ` + last + `
` + strings.Repeat(`
  table 1
  table 2
  field 2 "`+name+`" ~r0
  do setkind r1 ~r2
  move 0 ~1
`, n)
}

// Of handlers one behind the other 20 are called, one more is an error.
func chainsOfCallsRuns() []ran {
	return []ran{
		{name: "20 handlers", code: `
proto main
` + chainOf(impl.MaxChain, "call", "print") + `
  line 1
  do r0 "x"
  ret
`, want: `
line 0.0 1
print 0.0 1 ` + strings.Repeat("table ", 20) + `x
= 0 ticks 42 made 60
`},
		{name: "21 handlers", code: `
proto main
` + chainOf(impl.MaxChain+1, "call", "print") + `
  line 1
  do r0 "x"
  ret
`, want: `
line 0.0 1
throw 0.0 1 error 11
= 1 ticks 43 made 63
error error 11
trace main:1
`},
		{name: "20 handlers, the last of which can't be called", code: `
proto main
` + chainOf(impl.MaxChain, "call", "12") + `
  do r0
  ret
`, want: `
throw 0.0 0 error 6
= 1 ticks 41 made 60
error error 6
trace main:0
`},
		{name: "a table that is its own handler", code: `
proto main
  table 0
  field 0 "call" r0
  do setkind r0 r0
  do r0
  ret
`, want: `
throw 0.0 0 error 11
= 1 ticks 22 made 2
error error 11
trace main:0
`},
	}
}

func TestChainsOfCalls(t *testing.T) { holdRuns(t, chainsOfCallsRuns()) }

// A list of arguments may come to have more than MaxList values by the tables ahead of them: that is no error, but nothing more comes behind it.
func TestArgumentsOfChains(t *testing.T) {
	code := func(more string) string {
		return `
proto main
  fn 0 rest
  table 1
  field 1 "call" ~r0
  table 0
  do setkind r0 r1
  list 2
  const 3 7
` + strings.Repeat("  add 2 3\n", impl.MaxList) + `
  line 1
  call 3 0 ~2
  return ~3
proto rest rest regs=8
  pick 1 0 0
  pick 2 0 1
  pick 3 0 250
  const 4 nil
  do print r1 r2 r3
  ` + more + `
  ret "no error"
`
	}
	told := `
line 0.0 1
call 0.1 0 rest
print 0.1 0 table 7 7
throw 0.1 0 error 4
back 0.1 0 error
= 1 ticks 5 made 4
error error 4
trace rest:0 main:1
`
	holdRuns(t, []ran{
		{name: "251 arguments", code: code("copy 5 0"), want: `
line 0.0 1
call 0.1 0 rest
print 0.1 0 table 7 7
back 0.1 0
= 0 ticks 5 made 4
vals no error
`},
		{name: "one more behind 251", code: code("add 0 4"), want: told},
		{name: "a list behind 251", code: code("list 5; join 0 5"), want: told},
	})
}

// callsItself is a fn that calls itself n times; each call prints how many are left.
func callsItself(n int) string {
	return `
proto main
  line 1
  const 0 nil
  box 1 ~0
  fn 2 down
  put 1 2
  const 3 ` + strconv.Itoa(n) + `
  do r2 r3
  ret "end"
proto down params=1 ups=l1
  const 1 0
  binary 1 le 0 1
  if 1 end
  const 1 1
  binary 1 sub 0 ~1
  upget 2 0
  at 5
  do ~r2 r1
end:
  ret
`
}

// With Depth calls open a fn is not called; the text is one of them, builtins are not.
func TestDepth(t *testing.T) {
	with := func(depth int) *impl.Input { return &impl.Input{Ticks: 200, Depth: depth, Cells: 9} }
	holdRuns(t, []ran{
		{name: "no call but the text", in: with(1), code: `
proto main
  line 1
  do print "builtin"
  fn 0 f
  line 2
  do r0
  ret
proto f
  ret
`, want: `
line 0.0 1
print 0.0 1 builtin
line 0.0 2
throw 0.0 2 error 8
= 1 ticks 4 made 1
error error 8
trace main:2
`},
		{name: "a builtin in the deepest call", in: with(2), code: `
proto main
  fn 0 f
  do r0
  do r0
  ret
proto f
  do print "deep"
  ret
`, want: `
call 0.1 0 f
print 0.1 0 deep
back 0.1 0
call 0.1 0 f
print 0.1 0 deep
back 0.1 0
= 0 ticks 4 made 1
`},
		{name: "three calls where three are allowed", in: with(3), code: callsItself(1), want: `
line 0.0 1
call 0.1 0 down
call 0.1 0 down
back 0.1 0
back 0.1 0
= 0 ticks 3 made 2
vals end
`},
		{name: "four calls where three are allowed", in: with(3), code: callsItself(2), want: `
line 0.0 1
call 0.1 0 down
call 0.1 0 down
throw 0.1 5 error 8
back 0.1 0 error
back 0.1 0 error
= 1 ticks 4 made 2
error error 8
trace down:5 down:5 main:1
`},
	})
	for _, depth := range []int{1, 2, 10, 59, impl.MaxDepth} {
		if got := impl.RunCode(woven(callsItself(depth-2)), *with(depth)); depth > 1 && (got.Code != 0 || got.Ticks != depth) {
			t.Errorf("Depth %d: %s", depth, reportText(got))
		}
		if got := impl.RunCode(woven(callsItself(depth-1)), *with(depth)); got.Code != 1 || got.Error != "error 8" || got.Ticks != depth+1 || got.Trace != strings.Repeat("down:5 ", depth-1)+"main:1" {
			t.Errorf("Depth %d: %s", depth, reportText(got))
		}
	}
}
