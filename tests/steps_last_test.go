package tests

import (
	"fmt"
	"strings"
	"testing"

	"loop.example/punch/impl"
)

// dying begins a code with a kind in register 0, whose last word is the fn last. It makes 3 cells.
const dying = `
proto main
  table 0
  fn 1 last
  field 0 "last" ~r1
`

// lastTells is a last word that prints the number that its table has at "id".
const lastTells = `
proto last params=1 line=50
  entry 1 r0 "id"
  do print r1
  ret
`

func lastWordsRuns() []ran {
	return []ran{
		{name: "told once", code: dying + `
  table 1
  field 1 "id" 7
  do setkind r1 r0
  line 2
  do collect
  do print "held"
  drop 1
  let 1 collect
  do print r1
  let 1 collect
  do print r1
  ret
` + lastTells, want: `
line 0.0 2
print 0.0 2 held
last 0.0 0
call 0.1 50 last
print 0.1 0 7
back 0.1 0
print 0.0 2 3
print 0.0 2 3
= 0 ticks 10 made 5
`},
		{name: "in the order of making, not of wanting", code: dying + `
  table 1
  table 2
  table 3
  field 1 "id" 1
  field 2 "id" 2
  field 3 "id" 3
  do setkind ~r3 r0
  do setkind ~r1 r0
  do setkind ~r2 r0
  do collect
  ret
` + lastTells, want: `
last 0.0 0
call 0.1 50 last
print 0.1 0 1
back 0.1 0
last 0.0 0
call 0.1 50 last
print 0.1 0 2
back 0.1 0
last 0.0 0
call 0.1 50 last
print 0.1 0 3
back 0.1 0
= 0 ticks 10 made 9
`},
		{name: "one that holds another: both are told", code: dying + `
  table 1
  table 2
  field 1 "id" 1
  field 2 "id" 2
  field 2 "holds" r1
  do setkind ~r1 r0
  do setkind ~r2 r0
  do collect
  ret
` + lastTells, want: `
last 0.0 0
call 0.1 50 last
print 0.1 0 1
back 0.1 0
last 0.0 0
call 0.1 50 last
print 0.1 0 2
back 0.1 0
= 0 ticks 7 made 8
`},
		{name: "an error out of a last word is dropped", code: dying + `
  table 1
  table 2
  do setkind ~r1 r0
  do setkind ~r2 r0
  line 3
  do collect
  do print "behind"
  ret
proto last params=1
  line 51
  entry 1 r0 nil
  throw ~0
`, want: `
line 0.0 3
last 0.0 0
call 0.1 0 last
line 0.1 51
throw 0.1 51 table
back 0.1 0 error
catch 0.0 0 table
last 0.0 0
call 0.1 0 last
line 0.1 51
throw 0.1 51 table
back 0.1 0 error
catch 0.0 0 table
print 0.0 3 behind
= 0 ticks 9 made 5
`},
		{name: "a last word that can't be called", in: &impl.Input{Ticks: 20, Depth: 1, Cells: 20}, code: dying + `
  table 1
  do setkind ~r1 r0
  line 3
  try caught 1
  at 4
  let 1 collect
  do print "behind" r1
  endtry
  ret
caught:
  drop 1
  drop 2
  ret "caught"
` + lastTells, want: `
line 0.0 3
last 0.0 0
throw 0.0 4 error 8
catch 0.0 0 error 8
print 0.0 4 behind 3
= 0 ticks 5 made 4
`},
		{name: "the calls around it are open in its trace", code: dying + `
  box 1 ~0
  fn 0 f
  line 3
  do r0
  ret
proto last params=1
  at 8
  fn 1 catch
  do r1
  ret
proto f ups=l1
  upget 0 0
  table 1
  do setkind ~r1 ~r0
  at 20
  do collect
  ret
proto catch
  try caught 0
  at 9
  raise "x"
caught:
  do print r1
  ret
`, want: `
line 0.0 3
call 0.2 0 f
last 0.0 0
call 0.1 0 last
call 0.3 0 catch
throw 0.3 9 x
catch 0.3 0 x
print 0.3 0 catch:9 last:8 f:20 main:3
back 0.3 0
back 0.1 0
back 0.2 0
= 0 ticks 7 made 7
`},
		{name: "in a task", code: dying + `
  box 1 ~0
  fn 0 f
  let 0 task ~r0
  do resume r0
  ret
proto last params=1
  do print "last"
  ret
proto f ups=l1
  upget 0 0
  table 1
  do setkind ~r1 ~r0
  do collect
  ret
`, want: `
turn 1.0 0 resume
call 1.2 0 f
last 1.0 0
call 1.1 0 last
print 1.1 0 last
back 1.1 0
back 1.2 0
turn 0.0 0 done
= 0 ticks 7 made 7
`},
	}
}

func TestLastWords(t *testing.T) { holdRuns(t, lastWordsRuns()) }

// Whether a table wants a last word is said by setkind, whether it is told by the kind just then.
func TestWhoWantsALastWord(t *testing.T) {
	told := `
last 0.0 0
call 0.1 50 last
print 0.1 0 1
back 0.1 0
`
	for _, c := range []struct {
		name, ins    string
		told         int
		ticks, cells int
	}{
		{"last comes later", `let 2 rawget r0 "last"; field 0 "last" nil; do setkind r1 r0; field 0 "last" ~r2`, 0, 2, 1},
		{"last comes again behind setkind", `do setkind r1 r0; let 2 rawget r0 "last"; field 0 "last" nil; field 0 "last" ~r2`, 1, 2, 1},
		{"last is gone", `do setkind r1 r0; field 0 "last" nil`, 0, 1, 0},
		{"last is a builtin then", `do setkind r1 r0; field 0 "last" print`, 0, 1, 0},
		{"last is a builtin at setkind", `let 2 rawget r0 "last"; field 0 "last" print; do setkind r1 r0; field 0 "last" ~r2`, 0, 2, 0},
		{"no kind any more", `do setkind r1 r0; do setkind r1 nil`, 0, 2, 0},
		{"another kind", `do setkind r1 r0; table 2; do setkind r1 ~r2`, 0, 2, 1},
		{"another kind, to which last comes later", `do setkind r1 r0; table 2; do setkind r1 r2; let 3 rawget r0 "last"; field 2 "last" ~r3; drop 2`, 0, 3, 2},
		{"no kind, and then one to which last comes later", `do setkind r1 r0; do setkind r1 nil; let 2 rawget r0 "last"; field 0 "last" nil; do setkind r1 r0; field 0 "last" ~r2`, 0, 4, 1},
		{"the kind again", `do setkind r1 r0; do setkind r1; do setkind r1 r0`, 1, 3, 0},
		{"twice the kind", `do setkind r1 r0; do setkind r1 r0`, 1, 2, 0},
		{"a kind that has last from its own kind", `table 2; table 3; field 3 "index" r0; do setkind r2 ~r3; do setkind r1 ~r2`, 0, 2, 3},
	} {
		want := strings.Repeat(told, c.told)
		holdRun(t, ran{name: c.name, code: dying + `
  table 1
  field 1 "id" 1
  ` + c.ins + `
  drop 1
  do collect
  do collect
  ret
` + lastTells, want: want + fmt.Sprintf("= 0 ticks %d made %d", c.ticks+2+2*c.told, 5+c.cells)})
	}
}

func lastWordsThatHoldOnRuns() []ran {
	return []ran{
		{name: "a table that is held again wants nothing any more, until it is said again", code: `
proto main
  const 0 nil
  box 1 ~0
  table 0
  fn 2 last
  field 0 "last" ~r2
  table 2
  do setkind ~r2 r0
  let 3 collect
  get 2 1
  do print r2 r3
  const 3 nil
  put 1 ~3
  drop 2
  do collect
  do print "not told"
  table 2
  do setkind ~r2 r0
  do collect
  get 2 1
  do setkind ~r2 r0
  const 3 nil
  put 1 ~3
  do collect
  ret
proto last params=1 ups=l1
  upput 0 0
  ret
`, want: `
last 0.0 0
call 0.1 0 last
back 0.1 0
print 0.0 0 table 5
print 0.0 0 not told
last 0.0 0
call 0.1 0 last
back 0.1 0
last 0.0 0
call 0.1 0 last
back 0.1 0
= 0 ticks 12 made 6
`},
		{name: "those that they made are told then", code: `
proto main
  table 0
  const 1 3
  box 1 ~1
  box 2 0
  fn 3 last
  drop 2
  field 0 "last" ~r3
  table 3
  do setkind ~r3 r0
  let 3 collect
  do print r3
  ret
proto last params=1 ups=l1,l2
  upget 1 0
  do print r1
  unless 1 end
  const 2 1
  binary 1 sub 1 ~2
  upput 0 1
  const 2 0
  binary 2 lt 1 ~2
  if ~2 end
  table 2
  upget 3 1
  do setkind ~r2 ~r3
end:
  ret
`, want: `
last 0.0 0
call 0.1 0 last
print 0.1 0 3
back 0.1 0
last 0.0 0
call 0.1 0 last
print 0.1 0 2
back 0.1 0
last 0.0 0
call 0.1 0 last
print 0.1 0 1
back 0.1 0
last 0.0 0
call 0.1 0 last
print 0.1 0 0
back 0.1 0
print 0.0 0 5
= 0 ticks 14 made 9
`},
		{name: "all of them are held until the last one has ended", code: dying + `
  table 1
  table 2
  field 2 1 1
  table 3
  field 3 1 1
  field 3 2 2
  do setkind ~r1 r0
  do setkind ~r2 r0
  do setkind ~r3 r0
  let 1 collect
  do print r1
  ret
proto last
  let 0 cells
  do print r0
  ret
`, want: `
last 0.0 0
call 0.1 0 last
print 0.1 0 9
back 0.1 0
last 0.0 0
call 0.1 0 last
print 0.1 0 9
back 0.1 0
last 0.0 0
call 0.1 0 last
print 0.1 0 9
back 0.1 0
print 0.0 0 3
= 0 ticks 14 made 9
`},
		{name: "the fns are held, too, and are those of the beginning", code: `
proto main
  table 0
  fn 1 one
  field 0 "last" ~r1
  table 1
  table 2
  field 1 "id" 1
  field 2 "id" 2
  do setkind ~r1 r0
  do setkind ~r2 r0
  box 1 ~0
  fn 0 hold
  let 1 collect
  do print r1
  ret
proto one params=1
  entry 1 r0 "id"
  let 2 kind r0
  field 2 "last" nil
  let 3 cells
  do print r1 r3
  ret
proto hold ups=l1
  ret
`, want: `
last 0.0 0
call 0.1 0 one
print 0.1 0 1 8
back 0.1 0
last 0.0 0
call 0.1 0 one
print 0.1 0 2 8
back 0.1 0
print 0.0 0 3
= 0 ticks 12 made 9
`},
		{name: "collect in a last word tells others, not those that are due", code: dying + `
  table 1
  table 2
  table 3
  field 1 "id" "first"
  field 2 "id" "second"
  field 3 "id" "inner"
  field 1 "drops" ~r3
  do setkind ~r1 r0
  do setkind ~r2 r0
  let 1 collect
  do print r1
  ret
proto last params=1
  line 60
  entry 1 r0 "id"
  do print r1
  entry 1 r0 "drops"
  unless 1 end
  let 2 kind r0
  do setkind ~r1 ~r2
  field 0 "drops" nil
  const 1 nil
  let 2 collect
  do print "inner collect" ~r2
end:
  ret
`, want: `
last 0.0 0
call 0.1 0 last
line 0.1 60
print 0.1 60 first
last 0.0 0
call 0.1 0 last
line 0.1 60
print 0.1 60 inner
back 0.1 0
print 0.1 60 inner collect 7
back 0.1 0
last 0.0 0
call 0.1 0 last
line 0.1 60
print 0.1 60 second
back 0.1 0
print 0.0 0 3
= 0 ticks 17 made 10
`},
		{name: "pairs of weak tables are taken out ahead of last words, not from tables that are not reached", code: `
proto main
  table 0
  field 0 "weak" "v"
  table 1
  do setkind r1 r0
  box 2 1
  fn 3 last
  drop 2
  table 4
  field 4 "last" ~r3
  field 4 "weak" "v"
  table 5
  do setkind r5 r4
  field 1 "dying" r5
  table 6
  field 5 "lost" ~r6
  field 1 "own" r1
  drop 5
  drop 4
  do collect
  entry 2 r1 "own"
  ret r2
proto last params=1 ups=l2
  upget 1 0
  entry 1 ~r1 "dying"
  entry 2 r0 "lost"
  do print r1 ~r2
  do collect
  entry 2 r0 "lost"
  do print r2
  ret
`, want: `
last 0.0 0
call 0.1 0 last
print 0.1 0 nil table
print 0.1 0 nil
back 0.1 0
= 0 ticks 7 made 13
vals table
`},
		{name: "cells that last words make count until the collect is over", in: withCells(7), code: dying + `
  table 1
  do setkind ~r1 r0
  table 1
  table 2
  drop 2
  do collect
  table 2
  table 3
  table 4
  table 5
  ret
proto last params=1
  table 1
  try caught 2
  table 2
  endtry
  ret
caught:
  do print "no room"
  ret
`, want: `
last 0.0 0
call 0.1 0 last
throw 0.1 0 error 9
catch 0.1 0 error 9
print 0.1 0 no room
back 0.1 0
throw 0.0 0 error 9
= 1 ticks 4 made 10
error error 9
trace main:0
`},
	}
}

func TestLastWordsThatHoldOn(t *testing.T) { holdRuns(t, lastWordsThatHoldOnRuns()) }

// manyLast makes n tables with last words; each makes another one, with a last word of its own.
func manyLast(n int) string {
	code := `
proto main
  table 1
  fn 0 again
  field 1 "last" ~r0
  box 1 ~1
  table 0
  fn 2 last
  field 0 "last" ~r2
`
	for i := range n {
		code += fmt.Sprintf("  table 2; field 2 \"id\" %d; do setkind ~r2 r0\n", i)
	}
	return code + `
  do collect
  do collect
  ret
proto again params=1
  entry 1 r0 "id"
  do print "then" r1
  ret
proto last params=1 ups=l1
  entry 1 r0 "id"
  do print r1
  table 2
  field 2 "id" r1
  upget 3 0
  do setkind ~r2 ~r3
  ret
`
}

// Of n tables with last words each is told once, in the order of making, and then those that they made (P11).
func TestManyLastWords(t *testing.T) {
	for n := 0; n <= 20; n++ {
		var want []string
		for i := range n {
			want = append(want, fmt.Sprint(i))
		}
		for i := range n {
			want = append(want, fmt.Sprintf("then %d", i))
		}
		c := woven(manyLast(n))
		got := impl.RunCode(c, plenty())
		if got.Code != 0 || printed(got) != strings.Join(want, "|") {
			t.Errorf("%d tables: %s", n, reportText(got))
		}
		if n%5 == 0 {
			holdEveryRun(t, "last words", c, plenty(), got)
		}
	}
}
