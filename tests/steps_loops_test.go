package tests

import (
	"fmt"
	"strings"
	"testing"

	"loop.example/punch/impl"
)

// looping prints the turns of a loop over numbers.
func looping(from, to, by string) string {
	return `
proto main
  line 1
  const 0 ` + from + `
  const 1 ` + to + `
  const 2 ` + by + `
  for 0
test:
  fortest 0 end
  do print r0
  fornext 0 test
end:
  ret r0 r1 r2
`
}

// The turns are a, a + s, .. as long as they are not past b (P10).
func TestLoopsOverInts(t *testing.T) {
	for a := -20; a <= 20; a++ {
		for b := -20; b <= 20; b++ {
			for s := -20; s <= 20; s++ {
				if s == 0 || (a+b+s)%7 != 0 && abs(a) < 19 && abs(b) < 19 && abs(s) > 2 {
					continue
				}
				var turns []string
				for i := a; s > 0 && i <= b || s < 0 && i >= b; i += s {
					turns = append(turns, fmt.Sprint(i))
				}
				c := woven(looping(fmt.Sprint(a), fmt.Sprint(b), fmt.Sprint(s)))
				got := impl.RunCode(c, plenty())
				if got.Code != 0 || printed(got) != strings.Join(turns, "|") || got.Ticks != 1+len(turns) {
					t.Fatalf("%d to %d by %d: %s", a, b, s, reportText(got))
				}
			}
		}
	}
}

func abs(n int) int { return max(n, -n) }

func TestLoopsAtTheEnds(t *testing.T) {
	for _, c := range []struct{ from, to, by, turns, left string }{
		{"9223372036854775805", "9223372036854775807", "1", "9223372036854775805|9223372036854775806|9223372036854775807", "9223372036854775807 9223372036854775807 1"},
		{"9223372036854775805", "9223372036854775807", "2", "9223372036854775805|9223372036854775807", "9223372036854775807 9223372036854775807 2"},
		{"9223372036854775804", "9223372036854775807", "2", "9223372036854775804|9223372036854775806", "9223372036854775806 9223372036854775807 2"},
		{"-9223372036854775807", "-9223372036854775808", "-1", "-9223372036854775807|-9223372036854775808", "-9223372036854775808 -9223372036854775808 -1"},
		{"-9223372036854775808", "9223372036854775807", "9223372036854775807", "-9223372036854775808|-1|9223372036854775806", "9223372036854775806 9223372036854775807 9223372036854775807"},
		{"0", "-9223372036854775808", "-9223372036854775808", "0|-9223372036854775808", "-9223372036854775808 -9223372036854775808 -9223372036854775808"},
		{"-1", "-9223372036854775808", "-9223372036854775808", "-1", "-1 -9223372036854775808 -9223372036854775808"},
		{"1", "1", "5", "1", "6 1 5"},
		{"2", "1", "1", "", "2 1 1"},
		{"1", "2", "-1", "", "1 2 -1"},
		{"0.5", "2", "1", "1p-1|3p-1", "5p-1 1p1 1p0"},
		{"1", "2.5", "1", "1p0|1p1", "3p0 5p-1 1p0"},
		{"1", "2", "0.5", "1p0|3p-1|1p1", "5p-1 1p1 1p-1"},
		{"3", "1", "-1.0", "3p0|1p1|1p0", "0p0 1p0 -1p0"},
		{"9007199254740993", "9007199254740992.0", "4", "1p53", "2251799813685249p2 1p53 1p2"},
		{"9007199254740993", "9007199254740993", "1.0", "1p53|1p53", ""},
		{"1", "inf", "inf", "1p0|inf|inf", ""},
		{"inf", "1", "1", "", "inf 1p0 1p0"},
		{"-inf", "-inf", "5", "-inf", ""},
	} {
		in := impl.Input{Ticks: 4, Depth: 1}
		got := impl.RunCode(woven(looping(c.from, c.to, c.by)), in)
		if c.left == "" {
			// Such a loop has no end.
			if got.Code != 2 || !strings.HasPrefix(printed(got), c.turns) {
				t.Errorf("%v: %s", c, reportText(got))
			}
			continue
		}
		if got.Code != 0 || printed(got) != c.turns || strings.Join(got.Vals, " ") != c.left {
			t.Errorf("%v: %s", c, reportText(got))
		}
	}
}

func TestLoopsThatCantBegin(t *testing.T) {
	for _, c := range []struct{ from, to, by, code string }{
		{`"1"`, "2", "1", "1"}, {"1", "nil", "1", "1"}, {"1", "2", "true", "1"}, {"1", "2", "print", "1"}, {`"1"`, "2", "0", "1"}, {"1.5", "nil", "0", "1"},
		{"1", "2", "0", "14"}, {"1", "2", "0.0", "14"}, {"1", "2", "-0.0", "14"}, {"1.5", "2", "0", "14"},
	} {
		holdRun(t, ran{name: c.from + " " + c.to + " " + c.by, code: `
proto main
  const 0 ` + c.from + `
  const 1 ` + c.to + `
  const 2 ` + c.by + `
  line 3
  try caught 3
  at 4
  for 0
  endtry
  ret
caught:
  # The places are as they were.
  ret r0 r1 r2 r4
`, want: `
line 0.0 3
throw 0.0 4 error ` + c.code + `
catch 0.0 3 error ` + c.code + `
= 0 ticks 1 made 0
vals ` + textsOf(c.from, c.to, c.by) + ` main:4
`})
	}
	holdRuns(t, []ran{
		{name: "a step that is a NaN", code: nanLoop("0", "1", "nan"), want: `
throw 0.0 0 error 14
= 1 ticks 0 made 0
error error 14
trace main:0
`},
		{name: "a NaN to begin with", code: nanLoop("nan", "1", "1"), want: `
= 0 ticks 0 made 0
vals nan 1p0 1p0
`},
		{name: "up to a NaN", code: nanLoop("0", "nan", "1"), want: `
= 0 ticks 0 made 0
vals 0p0 nan 1p0
`},
	})
}

func textsOf(words ...string) string {
	var out []string
	for _, w := range words {
		out = append(out, impl.Text(valueOf(w)))
	}
	return strings.Join(out, " ")
}

// nanLoop is a loop with a NaN, which can't be a const.
func nanLoop(from, to, by string) string {
	code := "proto main\n  const 3 inf\n  const 4 -inf\n  binary 3 add ~3 ~4\n"
	for i, word := range []string{from, to, by} {
		if word == "nan" {
			code += fmt.Sprintf("  move %d 3\n", i)
		} else {
			code += fmt.Sprintf("  const %d %s\n", i, word)
		}
	}
	return code + `
  drop 3
  for 0
test:
  fortest 0 end
  do print r0
  fornext 0 test
end:
  ret r0 r1 r2
`
}

// The tests of a loop take any values.
func TestLoopsOfAnyValues(t *testing.T) {
	for _, c := range []struct{ first, second, third, went string }{
		{"1", "1", "nil", "stays"}, {"2", "1", "nil", "goes"}, {"1", "2", "nil", "stays"}, {"1", "2", `"-1"`, "stays"}, {"2", "1", `"-1"`, "goes"},
		{`"a"`, `"b"`, "1", "stays"}, {`"a"`, `"b"`, "-1", "goes"}, {`"b"`, `"a"`, "-1", "stays"}, {`"b"`, `"a"`, "1", "goes"}, {`"a"`, `"a"`, "-1", "stays"},
		{"nil", "1", "1", "goes"}, {"1", `"1"`, "1", "goes"}, {"print", "print", "1", "goes"}, {"2", "1", "0", "goes"}, {"1", "2", "0", "stays"},
		{"1", "2", "-0.0", "stays"}, {"2", "1", "-0.5", "stays"}, {"1", "2", "-0.5", "goes"}, {"1", "1.0", "-1", "stays"}, {"2", "1.5", "1", "goes"},
	} {
		holdRun(t, ran{name: "test of " + c.first + " " + c.second + " " + c.third, code: `
proto main
  const 0 ` + c.first + `
  const 1 ` + c.second + `
  const 2 ` + c.third + `
  fortest 0 end
  ret "stays" r0 r1 r2
end:
  ret "goes" r0 r1 r2
`, want: `
= 0 ticks 0 made 0
vals ` + c.went + " " + textsOf(c.first, c.second, c.third)})
	}
	for _, c := range []struct{ first, third, went, left string }{
		{"1", "2", "goes", "3"}, {"1", "-2", "goes", "-1"}, {"1", "0", "stays", "1"}, {"1", "0.0", "goes", "1p0"}, {"1.5", "0", "goes", "3p-1"}, {"1", "0.5", "goes", "3p-1"},
		{"nil", "1", "stays", "nil"}, {"1", "nil", "stays", "1"}, {`"a"`, `"b"`, "stays", "a"}, {"9223372036854775807", "1", "stays", "9223372036854775807"},
		{"-9223372036854775808", "-1", "stays", "-9223372036854775808"}, {"9223372036854775807", "-1", "goes", "9223372036854775806"}, {"9223372036854775807", "1.0", "goes", "1p63"},
	} {
		holdRun(t, ran{name: "next of " + c.first + " " + c.third, code: `
proto main
  const 0 ` + c.first + `
  const 1 "any"
  const 2 ` + c.third + `
  tick
  fornext 0 end
  ret "stays" r0 r1 r2
end:
  ret "goes" r0 r1 r2
`, want: `
= 0 ticks 1 made 0
vals ` + c.went + " " + c.left + " any " + textsOf(c.third)})
	}
}

// eachOver goes through what register 0 holds, and prints the turns.
func eachOver(what string) string {
	return `
proto main
  ` + what + `
  line 2
  each 0
round:
  eachnext 0 end 2
  const 3 print
  call 2 ~3 ~2
  drop 2
  jump round
end:
  ret r0 r1
`
}

func eachOverTablesRuns() []ran {
	return []ran{
		{name: "an empty table", code: eachOver("table 0"), want: `
line 0.0 2
= 0 ticks 1 made 1
vals table 0
`},
		{name: "a table", code: eachOver(`table 0; field 0 "a" 1; field 0 2 "b"; field 0 true print`), want: `
line 0.0 2
print 0.0 2 a 1
print 0.0 2 2 b
print 0.0 2 true builtin
= 0 ticks 7 made 4
vals table 3
`},
		{name: "a table of which pairs were taken out", code: eachOver(`table 0; field 0 "a" 1; field 0 "b" 2; field 0 "a" nil; field 0 "c" 3; field 0 "a" 4`), want: `
line 0.0 2
print 0.0 2 b 2
print 0.0 2 c 3
print 0.0 2 a 4
= 0 ticks 7 made 5
vals table 4
`},
		{name: "a kind without each", code: eachOver(`table 0; field 0 "a" 1; table 1; field 1 "index" print; do setkind r0 ~r1`), want: `
line 0.0 2
print 0.0 2 a 1
= 0 ticks 4 made 4
vals table 1
`},
		{name: "pairs that come and go on the way", code: `
proto main
  table 0
  field 0 1 "a"
  field 0 2 "b"
  field 0 3 "c"
  const 5 0
  each 0
round:
  eachnext 0 end 2
  const 3 1
  binary 5 add ~5 ~3
  const 3 6
  binary 3 gt 5 ~3
  if ~3 stop
  copy 3 2
  const 4 print
  call 3 ~4 ~3
  drop 3
  first 3 ~2
  # Each is taken out and comes again, behind the others, until six turns are over.
  index 4 0 3
  const 6 nil
  set 0 3 ~6
  set 0 ~3 ~4
  jump round
stop:
  drop 2
end:
  ret
`, want: `
print 0.0 0 1 a
print 0.0 0 2 b
print 0.0 0 3 c
print 0.0 0 1 a
print 0.0 0 2 b
print 0.0 0 3 c
= 0 ticks 13 made 10
`},
		{name: "where it stands may be changed", code: `
proto main
  table 0
  field 0 "a" 1
  field 0 "b" 2
  field 0 "c" 3
  each 0
  const 1 2
round:
  eachnext 0 end 2
  const 3 print
  call 2 ~3 ~2
  drop 2
  jump round
end:
  const 1 -5
  eachnext 0 end2 2
  first 3 ~2
  ret r3 r1
end2:
  ret
`, want: `
print 0.0 0 c 3
= 0 ticks 3 made 4
vals a 1
`},
		{name: "no table any more", code: `
proto main
  table 0
  each 0
  line 1
  const 0 "x"
  eachnext 0 end 2
  drop 2
end:
  ret
`, want: `
line 0.0 1
throw 0.0 1 error 7
= 1 ticks 1 made 1
error error 7
trace main:1
`},
	}
}

func TestEachOverTables(t *testing.T) { holdRuns(t, eachOverTablesRuns()) }

func eachOverCallsRuns() []ran {
	return []ran{
		{name: "a builtin", in: &impl.Input{Lines: []string{"one", "two"}, Ticks: 20, Depth: 1}, code: eachOver("const 0 read"), want: `
line 0.0 2
print 0.0 2 one
print 0.0 2 two
= 0 ticks 9 made 0
vals builtin nil
`},
		{name: "a builtin without values", code: eachOver("const 0 print"), want: `
line 0.0 2
print 0.0 2
= 0 ticks 3 made 0
vals builtin nil
`},
		{name: "a fn", code: eachOver("const 1 0; box 1 ~1; fn 0 count; drop 1") + `
proto count ups=l1 line=30
  upget 0 0
  const 1 1
  binary 0 add ~0 ~1
  upput 0 0
  const 1 2
  binary 1 gt 0 ~1
  if 1 end
  ret r0 nil "more"
end:
  ret nil "end"
`, want: `
line 0.0 2
call 0.1 30 count
back 0.1 0
print 0.0 2 1 nil more
call 0.1 30 count
back 0.1 0
print 0.0 2 2 nil more
call 0.1 30 count
back 0.1 0
= 0 ticks 9 made 2
vals fn nil
`},
		{name: "false goes on", code: eachOver("const 1 true; box 1 ~1; fn 0 once; drop 1") + `
proto once ups=l1
  upget 0 0
  unless 0 end
  const 0 nil
  upput 0 ~0
  ret false
end:
  ret
`, want: `
line 0.0 2
call 0.1 0 once
back 0.1 0
print 0.0 2 false
call 0.1 0 once
back 0.1 0
= 0 ticks 6 made 2
vals fn nil
`},
		{name: "a handler each", code: eachOver("table 0; table 1; fn 2 handler; field 1 \"each\" ~r2; do setkind r0 ~r1; drop 2") + `
proto handler params=1 rest
  let 2 type r0
  do print r2
  ret read "more"
`, in: &impl.Input{Lines: []string{"x"}, Ticks: 20, Depth: 2, Cells: 9}, want: `
line 0.0 2
call 0.1 0 handler
print 0.1 0 table
back 0.1 0
print 0.0 2 x
= 0 ticks 10 made 4
vals builtin nil
`},
		{name: "a builtin as a handler each", code: eachOver("table 0; table 1; field 1 \"each\" read; do setkind r0 ~r1"), want: `
line 0.0 2
throw 0.0 2 error 1
= 1 ticks 3 made 3
error error 1
trace main:2
`},
		{name: "a table that can be called, put in for the fn", code: `
proto main
  const 0 read
  each 0
  table 0
  table 2
  field 2 "call" print
  do setkind r0 ~r2
  line 4
  eachnext 0 end 2
  drop 2
end:
  ret
`, want: `
line 0.0 4
print 0.0 4 table
= 0 ticks 5 made 3
`},
		{name: "nothing that can be called, put in for the fn", code: `
proto main
  const 0 read
  each 0
  const 0 5
  eachnext 0 end 2
  drop 2
end:
  ret
`, want: `
throw 0.0 0 error 6
= 1 ticks 2 made 0
error error 6
trace main:0
`},
		{name: "a float is no place in a table", code: `
proto main
  table 0
  each 0
  const 1 0.0
  eachnext 0 end 2
  drop 2
end:
  ret
`, want: `
throw 0.0 0 error 6
= 1 ticks 2 made 1
error error 6
trace main:0
`},
		{name: "an error out of a turn", code: eachOver("fn 0 f") + `
proto f
  raise "x"
`, want: `
line 0.0 2
call 0.1 0 f
throw 0.1 0 x
back 0.1 0 error
= 1 ticks 3 made 1
error x
trace f:0 main:2
`},
		{name: "an error out of each", code: eachOver("table 0; table 1; fn 2 handler; field 1 \"each\" ~r2; do setkind r0 ~r1; drop 2") + `
proto handler
  raise "x"
`, want: `
line 0.0 2
call 0.1 0 handler
throw 0.1 0 x
back 0.1 0 error
= 1 ticks 3 made 4
error x
trace handler:0 main:2
`},
	}
}

func TestEachOverCalls(t *testing.T) {
	holdRuns(t, eachOverCallsRuns())
	for _, what := range []string{"nil", "true", "5", "1.5", `"x"`} {
		holdRun(t, ran{name: "each over " + what, code: eachOver("const 0 " + what), want: `
line 0.0 2
throw 0.0 2 error 1
= 1 ticks 1 made 0
error error 1
trace main:2
`})
		holdRun(t, ran{name: "each that gives " + what, code: eachOver("table 0; table 1; fn 2 handler; field 1 \"each\" ~r2; do setkind r0 ~r1; drop 2") + `
proto handler
  ret ` + what + ` read
`, want: `
line 0.0 2
call 0.1 0 handler
back 0.1 0
throw 0.0 2 error 1
= 1 ticks 3 made 4
error error 1
trace main:2
`})
	}
	holdRun(t, ran{name: "each over a task", code: eachOver("fn 0 f; let 0 task r0") + `
proto f
  ret
`, want: `
line 0.0 2
throw 0.0 2 error 1
= 1 ticks 2 made 2
error error 1
trace main:2
`})
}

// Nothing hangs on which registers are gone through.
func TestEachInOtherRegisters(t *testing.T) {
	begin := `
proto main
  table 3
  table 4
  fn 5 handler
  field 4 "each" ~r5
  do setkind r3 ~r4
  const 0 "zero"
  const 1 "one"
`
	turns := `
  each 3
round:
  eachnext 3 end 6
  const 7 print
  call 6 ~7 ~6
  drop 6
  jump round
end:
  ret r0 r1 r3 r4
`
	holdRuns(t, []ran{
		{name: "a handler", in: &impl.Input{Lines: []string{"x"}, Ticks: 20, Depth: 2, Cells: 9}, code: begin + turns + `
proto handler params=1
  let 1 cells
  do print r1
  drop 0
  let 1 cells
  do print r1
  ret read
`, want: `
call 0.1 0 handler
print 0.1 0 4
print 0.1 0 1
back 0.1 0
print 0.0 0 x
= 0 ticks 11 made 4
vals zero one builtin nil
`},
		{name: "a handler that gives no fn", code: begin + `
  try caught 3
  jump on
caught:
  ret r0 r1 r4
on:
` + turns + `
proto handler
  ret 5
`, want: `
call 0.1 0 handler
back 0.1 0
throw 0.0 0 error 1
catch 0.0 0 error 1
= 0 ticks 2 made 4
vals zero one main:0
`},
		{name: "a table", code: `
proto main
  table 3
  field 3 "k" "v"
  const 0 "zero"
  const 1 "one"
` + turns, want: `
print 0.0 0 k v
= 0 ticks 2 made 2
vals zero one table 1
`},
		{name: "numbers", code: `
proto main
  const 0 "zero"
  const 4 1
  const 5 2
  const 6 0.5
  for 4
test:
  fortest 4 end
  do print r4
  fornext 4 test
end:
  ret r0 r4 r5 r6
`, want: `
print 0.0 0 1p0
print 0.0 0 3p-1
print 0.0 0 1p1
= 0 ticks 3 made 0
vals zero 5p-1 1p1 1p-1
`},
	})
}

// The places of a turn may be the same as those that are gone through.
func TestTurnsIntoTheirOwnPlaces(t *testing.T) {
	for _, place := range []string{"0", "1"} {
		holdRun(t, ran{name: "into " + place, code: `
proto main
  table 0
  field 0 "k" "v"
  each 0
  eachnext 0 end ` + place + `
  return ` + place + `
end:
  ret
`, want: `
= 0 ticks 1 made 2
vals k v
`})
	}
}
