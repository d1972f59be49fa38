package tests

import (
	"fmt"
	"strings"
	"testing"

	"loop.example/punch/impl"
)

// kindred makes a kind with one handler, a fn that tells of its arguments and gives what is said, and two tables: register 0 holds one of this kind, register 1 a plain one.
func kindred(handler, gives, then string) string {
	return `
proto main
  table 0
  table 1
  table 2
  fn 3 handler
  field 2 "` + handler + `" ~r3
  field 0 "id" "own"
  field 1 "id" "plain"
  do setkind r0 ~r2
  line 7
  ` + then + `
  ret r4
proto handler rest
  const 1 print
  copy 2 0
  call 1 ~1 ~2
  ret ` + gives + `
`
}

// In all of these 7 cells and 2 ticks are used up to line 7.
func handledRun(told, result string) string {
	return `
line 0.0 7
call 0.1 0 handler
print 0.1 0 ` + told + `
back 0.1 0
= 0 ticks 4 made 7
vals ` + result
}

func TestHandlersOfOperations(t *testing.T) {
	for _, name := range []string{"add", "sub", "mul", "div", "idiv", "mod", "and", "or", "xor", "shl", "shr", "join"} {
		ticked := func(want string) string {
			if name == "join" {
				return strings.NewReplacer("ticks 4", "ticks 5", "ticks 2", "ticks 3").Replace(want)
			}
			return want
		}
		operation := func(a, b string) string { return a + "; " + b + "; binary 4 " + name + " 5 ~6" }
		failing := ticked(`
line 0.0 7
throw 0.0 7 error 1
= 1 ticks 2 made 7
error error 1
trace main:7
`)
		holdRuns(t, []ran{
			{name: name + " at the first", code: kindred(name, `"value" 2`, operation("move 5 0", "const 6 5")), want: ticked(handledRun("table 5", "value"))},
			{name: name + " at the second", code: kindred(name, `false`, operation("const 5 nil", "move 6 0")), want: ticked(handledRun("nil table", "false"))},
			{name: name + " at the first of two tables", code: kindred(name, ``, operation("move 5 0", "move 6 1")), want: ticked(handledRun("table table", "nil"))},
			{name: name + " at the second of two tables", code: kindred(name, `1`, operation("move 5 1", "move 6 0")), want: ticked(handledRun("table table", "1"))},
			{name: name + " at none", code: kindred(name, `1`, operation("move 5 1", "const 6 1")), want: failing},
			{name: name + " at none of no tables", code: kindred(name, `1`, operation("const 5 true", "const 6 1")), want: failing},
			{name: name + " by another name", code: kindred("eq", `1`, operation("move 5 0", "const 6 1")), want: failing},
		})
	}
}

// When both have a handler, that of the first is called; the others are not asked where the operation is for such values, or fails in another way.
func TestWhichHandler(t *testing.T) {
	two := func(first, second, then string) string {
		return `
proto main
  table 0
  table 1
  fn 2 one
  field 1 "` + first + `" ~r2
  field 0 "id" "a"
  do setkind r0 ~r1
  table 1
  table 2
  fn 3 two
  field 2 "` + second + `" ~r3
  field 1 "id" "b"
  do setkind r1 ~r2
  ` + then + `
  ret r2
proto one params=2 line=1
  let 3 rawget r0 "id"
  let 4 rawget r1 "id"
  do print r3 r4
  ret 11
proto two params=2 line=2
  let 3 rawget r0 "id"
  let 4 rawget r1 "id"
  do print r3 r4
  ret 22
`
	}
	called := func(fn, line, told, result string) string {
		name := map[string]string{"1": "one", "2": "two"}[fn]
		return `
call 0.` + fn + ` ` + line + ` ` + name + `
print 0.` + fn + ` 0 ` + told + `
back 0.` + fn + ` 0
= 0 ticks 6 made 10
vals ` + result
	}
	holdRuns(t, []ran{
		{name: "both have add", code: two("add", "add", "binary 2 add 0 1"), want: called("1", "1", "a b", "11")},
		{name: "both have add, turned", code: two("add", "add", "binary 2 add 1 0"), want: called("2", "2", "b a", "22")},
		{name: "only the second has sub", code: two("add", "sub", "binary 2 sub 0 1"), want: called("2", "2", "a b", "22")},
		{name: "both have lt", code: two("lt", "lt", "binary 2 lt 0 1"), want: called("1", "1", "a b", "true")},
		{name: "both have lt, turned around by gt", code: two("lt", "lt", "binary 2 gt 0 1"), want: called("2", "2", "b a", "true")},
		{name: "the first has lt, turned around by gt", code: two("lt", "le", "binary 2 gt 0 1"), want: called("1", "1", "b a", "true")},
		{name: "both have le", code: two("le", "le", "binary 2 le 0 1"), want: called("1", "1", "a b", "true")},
		{name: "both have le, turned around by ge", code: two("le", "le", "binary 2 ge 0 1"), want: called("2", "2", "b a", "true")},
		{name: "the first has le, turned around by ge", code: two("le", "lt", "binary 2 ge 0 1"), want: called("1", "1", "b a", "true")},
		{name: "both have eq", code: two("eq", "eq", "binary 2 eq 0 1"), want: called("1", "1", "a b", "true")},
		{name: "the second has eq", code: two("ne", "eq", "binary 2 ne 0 1"), want: called("2", "2", "a b", "false")},
	})
}

func TestHandlersOfOrder(t *testing.T) {
	for _, c := range []struct{ op, name, told string }{
		{"lt", "lt", "table 5"}, {"le", "le", "table 5"}, {"gt", "lt", "5 table"}, {"ge", "le", "5 table"},
	} {
		operation := func(a, b string) string { return a + "; " + b + "; binary 4 " + c.op + " ~5 6" }
		turned := strings.Fields(c.told)[1] + " " + strings.Fields(c.told)[0]
		holdRuns(t, []ran{
			{name: c.op + " true", code: kindred(c.name, `0`, operation("move 5 0", "const 6 5")), want: handledRun(c.told, "true")},
			{name: c.op + " false", code: kindred(c.name, `false true`, operation("move 5 0", "const 6 5")), want: handledRun(c.told, "false")},
			{name: c.op + " of no value", code: kindred(c.name, ``, operation("const 5 5", "move 6 0")), want: handledRun(turned, "false")},
			{name: c.op + " by the other name", code: kindred(map[string]string{"lt": "le", "le": "lt"}[c.name], ``, operation("move 5 0", "const 6 5")), want: `
line 0.0 7
throw 0.0 7 error 1
= 1 ticks 2 made 7
error error 1
trace main:7
`},
			{name: c.op + " where there is an order", code: kindred(c.name, ``, operation(`const 5 "a"`, `const 6 "b"`)), want: `
line 0.0 7
= 0 ticks 2 made 7
vals ` + map[string]string{"lt": "true", "le": "true", "gt": "false", "ge": "false"}[c.op]},
		})
	}
}

func TestHandlersOfEquality(t *testing.T) {
	plain := func(result string) string {
		return `
line 0.0 7
= 0 ticks 2 made 7
vals ` + result
	}
	holdRuns(t, []ran{
		{name: "eq says so", code: kindred("eq", `""`, "binary 4 eq 0 1"), want: handledRun("table table", "true")},
		{name: "eq at the second says so", code: kindred("eq", `1`, "binary 4 eq 1 0"), want: handledRun("table table", "true")},
		{name: "eq says no", code: kindred("eq", `nil`, "binary 4 eq 0 1"), want: handledRun("table table", "false")},
		{name: "ne is the opposite of a yes", code: kindred("eq", `true`, "binary 4 ne 0 1"), want: handledRun("table table", "false")},
		{name: "ne is the opposite of a no", code: kindred("eq", ``, "binary 4 ne 1 0"), want: handledRun("table table", "true")},
		{name: "the same table is not asked", code: kindred("eq", `nil`, "binary 4 eq 0 0"), want: plain("true")},
		{name: "the same table is not asked by ne", code: kindred("eq", `nil`, "binary 4 ne 0 0"), want: plain("false")},
		{name: "a table and another value", code: kindred("eq", `true`, `const 5 "x"; binary 4 eq 0 5`), want: plain("false")},
		{name: "another value and a table", code: kindred("eq", `true`, `const 5 nil; binary 4 ne 5 0`), want: plain("true")},
		{name: "two tables without a handler", code: kindred("lt", `true`, "binary 4 eq 0 1"), want: plain("false")},
	})
}

func TestHandlersOfOne(t *testing.T) {
	failing := `
line 0.0 7
throw 0.0 7 error 1
= 1 ticks 2 made 7
error error 1
trace main:7
`
	plain := func(result string) string {
		return `
line 0.0 7
= 0 ticks 2 made 7
vals ` + result
	}
	for _, name := range []string{"neg", "flip"} {
		holdRuns(t, []ran{
			{name: name, code: kindred(name, `"value"`, "unary 4 "+name+" 0"), want: handledRun("table", "value")},
			{name: name + " of no value", code: kindred(name, ``, "unary 4 "+name+" 0"), want: handledRun("table", "nil")},
			{name: name + " of a plain table", code: kindred(name, `1`, "unary 4 "+name+" 1"), want: failing},
			{name: name + " of a string", code: kindred(name, `1`, `const 4 "x"; unary 4 `+name+" ~4"), want: failing},
			{name: name + " by another name", code: kindred("len", `1`, "unary 4 "+name+" 0"), want: failing},
		})
	}
	holdRuns(t, []ran{
		{name: "len", code: kindred("len", `"long"`, "unary 4 len 0"), want: handledRun("table", "long")},
		{name: "len of no value", code: kindred("len", ``, "unary 4 len 0"), want: handledRun("table", "nil")},
		{name: "len of a plain table", code: kindred("len", `9`, "field 1 \"id\" nil; unary 4 len 1"), want: plain("0")},
		{name: "len of a string", code: kindred("len", `9`, `const 4 "four"; unary 4 len ~4`), want: plain("4")},
		{name: "len of nil", code: kindred("len", `9`, `const 4 nil; unary 4 len ~4`), want: failing},
		{name: "not of a table with handlers", code: kindred("not", `true`, `unary 4 not 0`), want: plain("false")},
		{name: "not of nil", code: kindred("not", `false`, `const 4 nil; unary 4 not ~4`), want: plain("true")},
		{name: "length of a plain table", code: `
proto main
  table 0
  field 0 1 "a"
  field 0 2.0 "b"
  field 0 4 "d"
  unary 1 len ~0
  ret r1
`, want: `
= 0 ticks 0 made 4
vals 2
`},
	})
}

func TestErrorsOfOperations(t *testing.T) {
	cases := []struct{ a, op, b, code string }{
		{"1", "idiv", "0", "2"}, {"1", "mod", "0", "2"}, {"1", "shl", "-1", "3"}, {"1", "shr", "-1", "3"}, {"1", "and", "1.5", "1"},
		{"nil", "add", "1", "1"}, {"true", "join", `"a"`, "1"}, {"1", "lt", `"a"`, "1"}, {"nil", "ge", "nil", "1"},
	}
	for _, c := range cases {
		ticks := "1"
		if c.op == "join" {
			ticks = "2"
		}
		holdRun(t, ran{name: c.a + " " + c.op + " " + c.b, code: `
proto main
  line 3
  const 0 ` + c.a + `
  const 1 ` + c.b + `
  binary 2 ` + c.op + ` ~0 ~1
  ret
`, want: `
line 0.0 3
throw 0.0 3 error ` + c.code + `
= 1 ticks ` + ticks + ` made 0
error error ` + c.code + `
trace main:3
`})
	}
	for _, op := range []string{"neg", "flip", "len"} {
		holdRun(t, ran{name: op + " of true", code: `
proto main
  const 0 true
  unary 0 ` + op + ` ~0
  ret
`, want: `
throw 0.0 0 error 1
= 1 ticks 0 made 0
error error 1
trace main:0
`})
	}
}

// A joined string may have MaxStr bytes, and not one more; its tick comes first.
func TestJoinsOfMaxStr(t *testing.T) {
	code := func(more string) string {
		return `
proto main
  const 0 "` + strings.Repeat("x", impl.MaxStr-2) + `"
  const 1 "` + more + `"
  binary 0 join ~0 ~1
  unary 0 len ~0
  ret r0
`
	}
	holdRuns(t, []ran{
		{name: "4000 bytes", code: code("ab"), want: `
= 0 ticks 1 made 0
vals 4000
`},
		{name: "4001 bytes", code: code("abc"), want: `
throw 0.0 0 error 4
= 1 ticks 1 made 0
error error 4
trace main:0
`},
		{name: "no tick for a join", code: code("ab"), in: &impl.Input{Ticks: 0, Depth: 1}, want: `= 2 ticks 0 made 0`},
	})
}

// An error out of a handler: what was taken is gone, and nothing is put.
func TestErrorsOutOfHandlers(t *testing.T) {
	for _, c := range []struct{ name, ins string }{
		{"add", "binary 7 add 3 4"}, {"join", "binary 7 join 4 3"}, {"eq", "binary 7 ne 3 4"}, {"lt", "binary 7 gt 3 4"}, {"neg", "unary 7 neg 3"}, {"len", "unary 7 len 3"},
		{"index", "index 7 3 4"}, {"setindex", "set 3 4 4"}, {"call", "seq 5; call 7 3 5; drop 7; const 7 1"}, {"each", "move 5 3; each 5"},
	} {
		ticks := 4
		switch c.name {
		case "join", "call":
			ticks++
		}
		holdRun(t, ran{name: "an error out of " + c.name, code: `
proto main
  fn 0 throw
  table 1
  field 1 "` + c.name + `" ~r0
  table 3
  do setkind r3 ~r1
  table 4
  line 6
  const 7 "before"
  scope 8
  later print "left"
  at 7
  ` + c.ins + `
  ret
proto throw rest
  line 9
  raise "x"
`, want: `
line 0.0 6
call 0.1 0 throw
line 0.1 9
throw 0.1 9 x
back 0.1 0 error
print 0.0 6 left
= 1 ticks ` + fmt.Sprint(ticks+1) + ` made 5
error x
trace throw:9 main:7
`})
	}
	holdRun(t, ran{name: "the place is as it was", code: `
proto main
  fn 0 throw
  table 1
  field 1 "add" r0
  table 2
  do setkind r2 ~r1
  const 3 "before"
  const 4 1
  try caught 5
  binary 3 add 2 4
  endtry
  ret
caught:
  ret r3 r5
proto throw
  raise "x"
`, want: `
call 0.1 0 throw
throw 0.1 0 x
back 0.1 0 error
catch 0.0 0 x
= 0 ticks 2 made 4
vals before x
`})
}

func TestReading(t *testing.T) {
	holdRuns(t, []ran{
		{name: "index is called", code: kindred("index", `"value"`, `entry 4 r0 "none"`), want: handledRun("table none", "value")},
		{name: "index is called for nil", code: kindred("index", ``, `entry 4 r0 nil`), want: handledRun("table nil", "nil")},
		{name: "index is not asked for a pair that there is", code: kindred("index", `"value"`, `entry 4 r0 "id"`), want: `
line 0.0 7
= 0 ticks 2 made 7
vals own
`},
		{name: "a table as index", code: `
proto main
  table 0
  table 1
  table 2
  field 1 "index" r2
  field 2 "a" 1
  do setkind r0 r1
  entry 3 r0 "a"
  entry 4 r0 "b"
  ret r3 r4
`, want: `
= 0 ticks 1 made 5
vals 1 nil
`},
		{name: "a handler behind a table: it is called with that table", code: `
proto main
  table 0
  table 1
  table 2
  field 1 "index" r2
  do setkind r0 r1
  table 3
  fn 4 handler
  field 3 "index" r4
  field 2 "id" "second"
  do setkind r2 r3
  entry 5 r0 "b"
  ret r5
proto handler params=2
  let 2 rawget r0 "id"
  ret r2 r1
`, want: `
call 0.1 0 handler
back 0.1 0
= 0 ticks 4 made 8
vals second
`},
		{name: "a builtin as index", code: `
proto main
  table 0
  table 1
  field 1 "index" type
  do setkind r0 r1
  entry 2 r0 5
  ret r2
`, want: `
= 0 ticks 2 made 3
vals table
`},
		{name: "an index that can't be called", code: `
proto main
  table 0
  table 1
  field 1 "index" "x"
  do setkind r0 r1
  at 6
  entry 2 r0 5
  ret r2
`, want: `
throw 0.0 6 error 6
= 1 ticks 2 made 3
error error 6
trace main:6
`},
	})
	for _, what := range []string{"nil", "true", "5", `"string"`, "print"} {
		holdRun(t, ran{name: "reading of " + what, code: `
proto main
  line 4
  const 0 ` + what + `
  entry 1 r0 nil
  ret
`, want: `
line 0.0 4
throw 0.0 4 error 7
= 1 ticks 1 made 0
error error 7
trace main:4
`})
	}
}

func writingRuns() []ran {
	return []ran{
		{name: "setindex is called", code: kindred("setindex", `"value"`, `store r0 "none" 5; const 4 nil`), want: handledRun("table none 5", "nil")},
		{name: "setindex is called with a nil", code: kindred("setindex", `"value"`, `store r0 "none" nil; const 4 nil`), want: handledRun("table none nil", "nil")},
		{name: "setindex is not asked for a pair that there is", code: kindred("setindex", ``, `store r0 "id" 5; entry 4 r0 "id"`), want: `
line 0.0 7
= 0 ticks 2 made 7
vals 5
`},
		{name: "a pair is taken out with setindex, and asked for then", code: kindred("setindex", ``, `store r0 "id" nil; store r0 "id" 6; entry 4 r0 "id"`), want: handledRun("table id 6", "nil")},
		{name: "a table as setindex", code: `
proto main
  table 0
  table 1
  table 2
  field 1 "setindex" r2
  field 0 "old" 1
  do setkind r0 r1
  store r0 "new" 7
  store r0 "old" 8
  entry 3 r2 "new"
  entry 4 r0 "new"
  entry 5 r2 "old"
  entry 6 r0 "old"
  ret r3 r4 r5 r6
`, want: `
= 0 ticks 1 made 6
vals 7 nil nil 8
`},
		{name: "a handler behind a table: it is called with that table", code: `
proto main
  table 0
  table 1
  table 2
  field 1 "setindex" r2
  do setkind r0 r1
  table 3
  fn 4 handler
  field 3 "setindex" r4
  field 2 "id" "second"
  do setkind r2 r3
  store r0 "b" 5
  ret
proto handler params=3
  let 3 rawget r0 "id"
  do print r3 r1 r2
  do rawset r0 r1 "raw"
  ret
`, want: `
call 0.1 0 handler
print 0.1 0 second b 5
back 0.1 0
= 0 ticks 6 made 9
`},
		{name: "raw and rawall ask no handler", code: kindred("setindex", ``, `field 0 "new" 1; seq 4 "a" "b"; const 5 1; rawall 0 ~5 ~4; unary 4 len 0`), want: `
line 0.0 7
= 0 ticks 2 made 10
vals 2
`},
		{name: "a builtin as setindex", code: `
proto main
  table 0
  table 1
  field 1 "setindex" print
  do setkind r0 r1
  store r0 2.5 nil
  ret
`, want: `
print 0.0 0 table 5p-1 nil
= 0 ticks 2 made 3
`},
		{name: "a setindex that can't be called", code: `
proto main
  table 0
  table 1
  field 1 "setindex" false
  do setkind r0 r1
  store r0 1 1
  ret
`, want: `
throw 0.0 0 error 6
= 1 ticks 2 made 3
error error 6
trace main:0
`},
	}
}

func TestWriting(t *testing.T) { holdRuns(t, writingRuns()) }

func TestErrorsOfWriting(t *testing.T) {
	failing := func(code, cells string) string {
		return `
line 0.0 4
throw 0.0 4 error ` + code + `
= 1 ticks 1 made ` + cells + `
error error ` + code + `
trace main:4
`
	}
	whole := func(ins string) string {
		return `
proto main
  const 0 inf
  const 1 -inf
  binary 0 add ~0 ~1
  line 4
` + ins + `
  ret
`
	}
	for _, what := range []string{"nil", "true", "5", `"string"`, "print"} {
		holdRuns(t, []ran{
			{name: "writing into " + what, code: whole("const 1 " + what + "; store r1 nil 1"), want: failing("7", "0")},
			{name: "raw into " + what, code: whole("const 1 " + what + "; field 1 nil 1"), want: failing("7", "0")},
			{name: "rawall into " + what, code: whole("const 1 " + what + "; list 2; const 3 nil; rawall 1 ~3 ~2"), want: failing("7", "0")},
		})
	}
	for _, key := range []string{"nil", "r0"} {
		holdRuns(t, []ran{
			{name: "writing at " + key, code: whole("table 1; store r1 " + key + " 1"), want: failing("5", "1")},
			{name: "writing a nil at " + key, code: whole("table 1; store r1 " + key + " nil"), want: failing("5", "1")},
			{name: "raw at " + key, code: whole("table 1; field 1 " + key + " 1"), want: failing("5", "1")},
			{name: "raw of a nil at " + key, code: whole("table 1; field 1 " + key + " nil"), want: failing("5", "1")},
		})
	}
	for _, first := range []string{"nil", "1.0", `"1"`, "true"} {
		holdRun(t, ran{name: "rawall from " + first, code: whole("table 1; const 2 " + first + "; list 3; rawall 1 ~2 ~3"), want: failing("5", "1")})
	}
	holdRun(t, ran{name: "a key that there can't be is told ahead of a handler", code: `
proto main
  table 0
  table 1
  field 1 "setindex" print
  do setkind r0 r1
  store r0 nil 1
  ret
`, want: `
throw 0.0 0 error 5
= 1 ticks 1 made 3
error error 5
trace main:0
`})
}

// Of tables one behind the other 20 steps are made, one more is an error.
func TestChainsOfReadingAndWriting(t *testing.T) {
	for _, c := range []struct{ name, ins string }{{"index", `entry 1 r0 "x"`}, {"setindex", `store r0 "x" 1; const 1 nil`}} {
		// The last of n tables has no kind, so n - 1 steps are made.
		chain := func(n int) string {
			return `
proto main
  table 0
` + strings.Repeat(`
  table 1
  table 2
  field 2 "`+c.name+`" ~r0
  do setkind r1 ~r2
  move 0 ~1
`, n) + `
  line 1
  ` + c.ins + `
  ret r1
`
		}
		made := map[string]string{"index": "61", "setindex": "62"}[c.name]
		holdRuns(t, []ran{
			{name: c.name + ", 20 steps", code: chain(impl.MaxChain), want: `
line 0.0 1
= 0 ticks 21 made ` + made + `
vals nil
`},
			{name: c.name + ", 21 steps", code: chain(impl.MaxChain + 1), want: `
line 0.0 1
throw 0.0 1 error 11
= 1 ticks 22 made 64
error error 11
trace main:1
`},
			{name: c.name + ", round and round", code: `
proto main
  table 0
  field 0 "` + c.name + `" r0
  do setkind r0 r0
  ` + c.ins + `
  ret r1
`, want: `
throw 0.0 0 error 11
= 1 ticks 1 made 2
error error 11
trace main:0
`},
			{name: c.name + ", a call behind 20 steps", code: `
proto main
` + `
  table 0
  table 1
  field 1 "` + c.name + `" print
  do setkind r0 ~r1
` + strings.Repeat(`
  table 1
  table 2
  field 2 "`+c.name+`" ~r0
  do setkind r1 ~r2
  move 0 ~1
`, impl.MaxChain) + `
  ` + c.ins + `
  ret r1
`, want: `
print 0.0 0 table x` + map[string]string{"index": "", "setindex": " 1"}[c.name] + `
= 0 ticks 22 made 63
vals nil
`},
		})
	}
}

// filling makes a table with n pairs; register 0 holds it.
func filling(n int) string {
	return `
  table 0
  list 1
  const 2 "x"
` + strings.Repeat("  add 1 2\n", n/2) + `
  const 2 1
  rawall 0 ~2 1
  const 2 ` + impl.Text(intOf(int64(1+n/2))) + `
  rawall 0 ~2 ~1
`
}

func TestMaxPairs(t *testing.T) {
	in := impl.Input{Ticks: 10, Depth: 1, Cells: 600}
	failing := `
throw 0.0 0 error 4
= 1 ticks 0 made 501
error error 4
trace main:0
`
	holdRuns(t, []ran{
		{name: "500 pairs", in: &in, code: "proto main\n" + filling(impl.MaxPairs) + `
  store r0 500 "changed"
  store r0 0 nil
  field 0 -1 nil
  store r0 1 nil
  store r0 "new" 1
  entry 1 r0 500
  entry 2 r0 "new"
  entry 3 r0 1
  ret r1 r2 r3
`, want: `
= 0 ticks 0 made 502
vals changed 1 nil
`},
		{name: "501 pairs by set", in: &in, code: "proto main\n" + filling(impl.MaxPairs) + `
  store r0 0 1
  ret
`, want: failing},
		{name: "501 pairs by raw", in: &in, code: "proto main\n" + filling(impl.MaxPairs) + `
  field 0 501 1
  ret
`, want: failing},
		{name: "501 pairs by rawall", in: &in, code: "proto main\n" + filling(impl.MaxPairs) + `
  seq 1 "a" "b"
  const 2 500
  rawall 0 ~2 ~1
  ret
`, want: failing},
		{name: "501 pairs by rawset", in: &in, code: "proto main\n" + filling(impl.MaxPairs) + `
  at 3
  do rawset r0 false 1
  ret
`, want: `
throw 0.0 3 error 4
= 1 ticks 1 made 501
error error 4
trace main:3
`},
		{name: "too many pairs are told ahead of too many cells", in: &impl.Input{Ticks: 10, Depth: 1, Cells: 501}, code: "proto main\n" + filling(impl.MaxPairs) + `
  field 0 501 1
  ret
`, want: failing},
	})
}
