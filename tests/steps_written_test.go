package tests

import (
	"testing"

	"loop.example/punch/impl"
)

func linesAndTicksRuns() []ran {
	return []ran{
		{name: "lines at hand", code: `
proto main
  do print "none"
  line 5
  tick
  at 7
  do print "a" 1
  at 0
  do print
  line 100000
  ret
`, want: `
print 0.0 0 none
line 0.0 5
print 0.0 7 a 1
print 0.0 0
line 0.0 100000
= 0 ticks 6 made 0
`},
		{name: "a round with a tick", code: `
proto main
round:
  tick
  jump round
`, want: `= 2 ticks 500 made 0`},
		{name: "a round with a line", code: `
proto main
round:
  line 3
  jump round
`, in: &impl.Input{Ticks: 2, Depth: 1}, want: `
line 0.0 3
line 0.0 3
= 2 ticks 2 made 0
`},
	}
}

func TestLinesAndTicks(t *testing.T) { holdRuns(t, linesAndTicksRuns()) }

func movesAndBoxesRuns() []ran {
	return []ran{
		{name: "moves", code: `
proto main
  const 0 5
  move 1 0
  move 2 ~1
  move 2 2
  const 1 "x"
  move 0 ~0
  do print r0 r1 r2
  ret
`, want: `
print 0.0 0 5 x 5
= 0 ticks 1 made 0
`},
		{name: "boxes", code: `
proto main
  const 0 "old"
  box 1 0
  box 2 ~0
  get 3 1
  const 0 "new"
  put 1 0
  get 4 1
  get 5 2
  do print r0 r3 r4 r5
  put 1 ~0
  box 3 4
  get 3 3
  do print r3
  ret
`, want: `
print 0.0 0 new old new old
print 0.0 0 new
= 0 ticks 2 made 0
`},
		{name: "consts of all kinds", code: `
proto main
  do print nil true false -3 0.5 -2.0 "" "a b" print
  ret nil true print
`, want: `
print 0.0 0 nil true false -3 1p-1 -1p1  a b builtin
= 0 ticks 1 made 0
vals nil true builtin
`},
	}
}

func TestMovesAndBoxes(t *testing.T) { holdRuns(t, movesAndBoxesRuns()) }

func fnsCloseOverBoxesRuns() []ran {
	return []ran{
		{name: "two fns and their maker share a box", code: `
proto main
  const 0 1
  box 1 ~0
  fn 2 put
  fn 3 get
  let 4 r3
  do r2 "two"
  let 5 r3
  do print r4 r5
  const 0 3
  put 1 ~0
  let 4 r3
  do r2 nil
  get 5 1
  do print r4 r5
  ret
proto put params=1 regs=3 ups=l1
  upput 0 ~0
  ret
proto get regs=2 ups=l1 line=9
  upget 0 0
  list 1
  add 1 ~0
  return ~1
`, want: `
call 0.2 9 get
back 0.2 0
call 0.1 0 put
back 0.1 0
call 0.2 9 get
back 0.2 0
print 0.0 0 1 two
call 0.2 9 get
back 0.2 0
call 0.1 0 put
back 0.1 0
print 0.0 0 3 nil
= 0 ticks 7 made 4
`},
		{name: "an up of an up, beside one of its own", code: `
proto main
  const 0 "outer"
  box 1 ~0
  const 0 "other"
  box 2 ~0
  fn 3 make
  let 4 r3
  let 5 r3
  do r4
  do r5
  do r4
  ret
proto make regs=5 ups=l2,l1
  const 0 0
  box 1 ~0
  fn 0 count
  ret ~r0
proto count regs=5 ups=u1,l1
  upget 0 1
  const 1 1
  binary 0 add ~0 ~1
  upput 1 0
  upget 1 0
  do print r0 r1
  const 1 "changed"
  upput 0 ~1
  ret
`, want: `
call 0.1 0 make
back 0.1 0
call 0.1 0 make
back 0.1 0
call 0.2 0 count
print 0.2 0 1 outer
back 0.2 0
call 0.2 0 count
print 0.2 0 1 changed
back 0.2 0
call 0.2 0 count
print 0.2 0 2 changed
back 0.2 0
= 0 ticks 8 made 9
`},
	}
}

func TestFnsCloseOverBoxes(t *testing.T) { holdRuns(t, fnsCloseOverBoxesRuns()) }

func tablesAreWrittenAndReadRuns() []ran {
	return []ran{
		{name: "raw, rawall, index and set", code: `
proto main
  table 0
  const 1 "k"
  const 2 7
  raw 0 1 2
  index 3 0 1
  const 4 2
  raw 0 ~2 4
  const 2 7.0
  index 5 0 ~2
  do print r3 r5
  set 0 1 ~4
  index 3 0 ~1
  entry 4 r0 "none"
  do print r3 r4
  seq 1 "a" nil "c"
  const 2 -1
  rawall 0 2 ~1
  entry 3 r0 -1
  entry 4 r0 0
  entry 5 r0 1
  do print r3 r4 r5
  ret r0
`, want: `
print 0.0 0 7 2
print 0.0 0 2 nil
print 0.0 0 a nil c
= 0 ticks 3 made 5
vals table
`},
		{name: "a nil takes a key out, and a new one comes last", code: `
proto main
  table 0
  field 0 "a" 1
  field 0 "b" 2
  field 0 "c" 3
  field 0 "a" nil
  field 0 "none" nil
  field 0 "b" 4
  field 0 "a" 5
  each 0
round:
  eachnext 0 end 2
  const 3 print
  call 2 ~3 ~2
  drop 2
  jump round
end:
  ret
`, want: `
print 0.0 0 b 4
print 0.0 0 c 3
print 0.0 0 a 5
= 0 ticks 6 made 5
`},
		{name: "rawall wraps, and takes keys out", code: `
proto main
  table 0
  field 0 9223372036854775807 "x"
  seq 1 nil "least" "next"
  const 2 9223372036854775807
  rawall 0 ~2 ~1
  entry 3 r0 9223372036854775807
  entry 4 r0 -9223372036854775808
  entry 5 r0 -9223372036854775807
  seq 1
  const 2 1
  rawall 0 ~2 ~1
  unary 6 len 0
  ret r3 r4 r5 r6
`, want: `
= 0 ticks 0 made 4
vals nil least next 0
`},
		{name: "the pairs ahead of the one that fails are put in", in: &impl.Input{Ticks: 9, Depth: 1, Cells: 3}, code: `
proto main
  table 0
  try caught 1
  seq 1 "a" "b" "c"
  const 2 1
  rawall 0 ~2 ~1
  endtry
  ret
caught:
  unary 3 len 0
  entry 4 r1 "code"
  ret r3 r4 r2
`, want: `
throw 0.0 0 error 9
catch 0.0 0 error 9
= 0 ticks 0 made 3
vals 2 9 main:0
`},
	}
}

func TestTablesAreWrittenAndRead(t *testing.T) { holdRuns(t, tablesAreWrittenAndReadRuns()) }

func operationsStepRuns() []ran {
	return []ran{
		{name: "unary and binary", code: `
proto main
  const 0 7
  const 1 -2
  binary 2 idiv 0 1
  binary 3 mod 0 1
  binary 4 join 0 1
  unary 5 neg 0
  do print r2 r3 r4 r5
  unary 2 flip 0
  unary 3 not ~0
  unary 4 len 4
  binary 5 lt 1 2
  binary 1 eq 1 ~1
  do print r1 r2 r3 r4 r5
  ret
`, want: `
print 0.0 0 -4 -1 7-2 -7
print 0.0 0 true -8 false 3 false
= 0 ticks 3 made 0
`},
		{name: "all with two", code: `
proto main
  const 0 12
  const 1 10
  binary 2 add 0 1
  binary 3 sub 0 1
  binary 4 mul 0 1
  binary 5 div 0 1
  binary 6 idiv 0 1
  binary 7 mod 0 1
  do print r2 r3 r4 r5 r6 r7
  binary 2 and 0 1
  binary 3 or 0 1
  binary 4 xor 0 1
  binary 5 shl 0 1
  binary 6 shr 0 1
  binary 7 join 0 1
  do print r2 r3 r4 r5 r6 r7
  binary 2 eq 0 1
  binary 3 ne 0 1
  binary 4 lt 0 1
  binary 5 le 0 1
  binary 6 gt 0 1
  binary 7 ge 0 1
  do print r2 r3 r4 r5 r6 r7
  ret
`, want: `
print 0.0 0 22 2 120 5404319552844595p-52 1 2
print 0.0 0 8 14 6 12288 0 1210
print 0.0 0 false true false false true true
= 0 ticks 4 made 0
`},
	}
}

func TestOperationsStep(t *testing.T) { holdRuns(t, operationsStepRuns()) }

func jumpsRuns() []ran {
	return []ran{
		{name: "jump, if and unless", code: `
proto main
  const 0 0
  if 0 yes
  do print "no zero"
yes:
  const 0 nil
  if ~0 no
  const 0 false
  unless ~0 go
  do print "not skipped"
no:
  do print "if nil"
go:
  const 0 ""
  unless 0 no2
  jump end
no2:
  do print "unless string"
end:
  ret r0
`, want: `
= 0 ticks 0 made 0
vals
`},
		{name: "what a jump takes", code: `
proto main
  const 0 true
  if ~0 there
  list 0
  ret "next"
there:
  list 0
  ret "there"
`, want: `
= 0 ticks 0 made 0
vals there
`},
	}
}

func TestJumps(t *testing.T) { holdRuns(t, jumpsRuns()) }

func listsStepRuns() []ran {
	return []ran{
		{name: "lists are values", code: `
proto main
  list 0
  const 1 "a"
  add 0 1
  copy 2 0
  const 1 "b"
  add 0 1
  const 1 "c"
  add 2 ~1
  join 0 2
  join 2 ~0
  const 3 print
  call 4 3 2
  drop 4
  first 1 2
  pick 4 2 0
  pick 5 2 1
  pick 6 2 5
  pick 7 2 250
  do print r1 r4 r5 r6 r7
  copy 2 2
  return 2
`, want: `
print 0.0 0 a c a b a c
print 0.0 0 a a c c nil
= 0 ticks 2 made 0
vals a c a b a c
`},
		{name: "a list behind itself, and its first", code: `
proto main
  seq 0 1 nil
  join 0 0
  copy 1 0
  first 2 ~1
  list 3
  first 4 3
  first 5 ~3
  do print r2 r4 r5
  return ~0
`, want: `
print 0.0 0 1 nil nil
= 0 ticks 1 made 0
vals 1 nil 1 nil
`},
		{name: "a list that was copied does not grow with the other", code: `
proto main
  seq 0 1 2 3
  copy 1 0
  const 2 4
  add 0 2
  const 2 5
  add 1 2
  copy 3 1
  const 2 6
  add 3 2
  add 1 ~2
  join 0 1
  join 0 3
  return 0
`, want: `
= 0 ticks 0 made 0
vals 1 2 3 4 1 2 3 5 6 1 2 3 5 6
`},
		{name: "a list that is not taken stays as it is", code: `
proto main
  seq 0 1 2
  fn 1 grow
  call 2 1 0
  call 3 1 0
  join 0 ~2
  join 0 ~3
  return 0
proto grow rest regs=3
  const 1 9
  add 0 ~1
  return 0
`, want: `
call 0.1 0 grow
back 0.1 0
call 0.1 0 grow
back 0.1 0
= 0 ticks 2 made 1
vals 1 2 1 2 9 1 2 9
`},
	}
}

func TestListsStep(t *testing.T) { holdRuns(t, listsStepRuns()) }

func dropsRuns() []ran {
	return []ran{{name: "drop of a value, a box, a list and nothing", code: `
proto main
  table 0
  const 1 nil
  let 1 cells
  do print r1
  drop 0
  table 2
  box 3 ~2
  let 1 cells
  do print r1
  drop 3
  table 2
  seq 3 ~r2
  let 1 cells
  do print r1
  drop 3
  drop 3
  let 1 cells
  do print r1
  ret
`, want: `
print 0.0 0 1
print 0.0 0 1
print 0.0 0 1
print 0.0 0 0
= 0 ticks 8 made 3
`}}
}

func TestDrops(t *testing.T) { holdRuns(t, dropsRuns()) }

func TestArgsAndLines(t *testing.T) {
	in := impl.Input{Args: []string{"one", "", "three"}, Lines: []string{"first", ""}, Ticks: 20, Depth: 1, Cells: 0}
	holdRuns(t, []ran{
		{name: "the text has its arguments in its rest", in: &in, code: `
proto main rest
  const 1 print
  call 2 ~1 0
  let 3 read
  let 4 read "x"
  let 5 read
  let 6 read
  do print r3 r4 r5 r6
  return 0
`, want: `
print 0.0 0 one  three
print 0.0 0 first  nil nil
= 0 ticks 6 made 0
vals one  three
`},
		{name: "a text without a rest", in: &in, code: `
proto main
  ret
`, want: `= 0 ticks 0 made 0`},
	})
}
