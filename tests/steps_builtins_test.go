package tests

import (
	"strings"
	"testing"

	"loop.example/punch/impl"
)

// onEach calls a builtin with a value of each kind and prints what it gives.
func onEach(builtin string) string {
	code := `
proto main
  table 0
  fn 1 f
  let 2 task r1
`
	for _, value := range []string{"nil", "true", "false", "-7", "0.5", `"s"`, "r0", "r1", "r2", "print"} {
		code += "  let 3 " + builtin + " " + value + " 1\n  do print r3\n"
	}
	return code + `
  let 3 ` + builtin + `
  do print r3
  ret
proto f
  ret
`
}

func TestTypesAndTexts(t *testing.T) {
	for _, c := range []struct{ builtin, texts string }{
		{"type", "nil|bool|bool|int|float|str|table|fn|task|fn|nil"},
		{"text", "nil|true|false|-7|1p-1|s|table|fn|task|builtin|nil"},
		{"kind", "nil|nil|nil|nil|nil|nil|nil|nil|nil|nil|nil"},
	} {
		code := woven(onEach(c.builtin))
		got := impl.RunCode(code, plenty())
		if printed(got) != c.texts || got.Code != 0 || got.Ticks != 23 {
			t.Errorf("%s: %s", c.builtin, reportText(got))
		}
		holdEveryRun(t, c.builtin, code, plenty(), got)
	}
	holdRuns(t, textsRuns())
}

func textsRuns() []ran {
	return []ran{{name: "a text is a string", code: `
proto main
  let 0 text 12
  let 1 type r0
  let 2 text nil
  let 3 type r2
  let 4 type "nil"
  ret r1 r3 r4
`, want: `
= 0 ticks 5 made 0
vals str str str
`}}
}

// A printed line may have MaxStr bytes with its spaces, and not one more.
func TestPrintOfMaxStr(t *testing.T) {
	x := func(n int) string { return `"` + strings.Repeat("x", n) + `"` }
	for _, c := range []struct {
		args string
		long bool
	}{
		{x(4000), false}, {x(3998) + ` "a"`, false}, {x(1999) + " " + x(2000), false}, {x(3999) + ` ""`, false}, {x(3996) + " nil", false},
		{x(4000) + ` ""`, true}, {x(3999) + ` "a"`, true}, {x(2000) + " " + x(2000), true}, {x(3997) + " nil", true},
	} {
		got := impl.RunCode(woven("proto main\n  line 2\n  do print "+c.args+"\n  ret"), plenty())
		if c.long {
			if got.Code != 1 || got.Error != "error 4" || got.Trace != "main:2" || printed(got) != "" || got.Ticks != 2 {
				t.Errorf("%.20s: %.100s", c.args, reportText(got))
			}
		} else if got.Code != 0 || len(printed(got)) > 4000 || len(printed(got)) < 4000 && !strings.HasSuffix(c.args, `"a"`) {
			t.Errorf("%.20s: %.100s", c.args, reportText(got))
		}
	}
}

func kindsOfTablesRuns() []ran {
	return []ran{
		{name: "setkind gives the table, kind its kind", code: `
proto main
  table 0
  table 1
  field 1 "id" "kind"
  field 0 "id" "own"
  all 2 setkind r0 r1 "more"
  pick 3 2 0
  pick 4 2 1
  drop 2
  let 3 rawget ~r3 "id"
  let 5 kind r0 "more"
  let 5 rawget ~r5 "id"
  do print r3 r4 r5
  do setkind r0 nil
  let 5 kind r0
  do setkind r0 r0
  let 6 kind r0
  do setkind r0
  let 7 kind r0
  binary 6 eq ~6 0
  ret r5 r6 r7
`, want: `
print 0.0 0 own nil kind
= 0 ticks 11 made 4
vals nil true nil
`},
		{name: "a kind is asked as it is then", code: `
proto main
  table 0
  table 1
  do setkind r0 r1
  entry 2 r0 "x"
  field 1 "index" type
  entry 3 r0 "x"
  field 1 "index" nil
  entry 4 r0 "x"
  ret r2 r3 r4
`, want: `
= 0 ticks 2 made 3
vals nil table nil
`},
		{name: "rawget asks no handler", code: `
proto main
  table 0
  table 1
  field 1 "index" type
  do setkind r0 r1
  field 0 2 "two"
  let 2 rawget r0 "none"
  let 3 rawget r0 2.0
  let 4 rawget r0 nil
  let 5 rawget r0
  ret r2 r3 r4 r5
`, want: `
= 0 ticks 5 made 4
vals nil two nil nil
`},
		{name: "rawset asks no handler, and gives no values", code: `
proto main
  table 0
  table 1
  field 1 "setindex" print
  do setkind r0 r1
  all 2 rawset r0 "k" "v"
  pick 3 2 0
  entry 4 r0 "k"
  do rawset r0 "k" nil
  entry 5 r0 "k"
  do rawset r0 "k"
  ret r3 r4 r5
`, want: `
= 0 ticks 4 made 4
vals nil v nil
`},
	}
}

func TestKindsOfTables(t *testing.T) { holdRuns(t, kindsOfTablesRuns()) }

// Every builtin that throws does so in the instruction that calls it.
func TestErrorsOfBuiltins(t *testing.T) {
	cases := []struct{ call, code string }{
		{"setkind", "12"}, {"setkind nil nil", "12"}, {`setkind "x" r0`, "12"}, {"setkind r1 r0", "12"}, {"setkind r0 1", "12"}, {"setkind r0 false", "12"}, {"setkind r0 r1", "12"},
		{"rawget", "12"}, {"rawget nil 1", "12"}, {`rawget "x" 1`, "12"}, {"rawget r1 1", "12"},
		{"rawset", "12"}, {"rawset nil nil 1", "12"}, {"rawset r2 1 1", "12"}, {"rawset r0", "5"}, {"rawset r0 nil 1", "5"}, {"rawset r0 nil nil", "5"}, {"rawset r0 r3 1", "5"},
		{"task", "12"}, {"task nil", "12"}, {"task print", "12"}, {"task r0", "12"}, {"task r2", "12"},
		{"resume", "12"}, {"resume nil", "12"}, {"resume r0", "12"}, {"resume r1", "12"},
		{"status", "12"}, {"status r1", "12"}, {"status 1", "12"},
		{"giveup", "12"}, {"giveup r1", "12"}, {"giveup true", "12"},
		{"yield", "10"}, {"yield 1", "10"},
	}
	for _, c := range cases {
		holdRun(t, ran{name: c.call, code: `
proto main
  table 0
  fn 1 f
  let 2 task r1
  const 3 inf
  const 4 -inf
  binary 3 add ~3 ~4
  line 6
  do ` + c.call + `
  ret
proto f
  ret
`, want: `
line 0.0 6
throw 0.0 6 error ` + c.code + `
= 1 ticks 3 made 3
error error ` + c.code + `
trace main:6
`})
	}
}

func TestBuiltinsGiveNoMore(t *testing.T) {
	for _, c := range []struct{ call, vals string }{
		{"print 1", ""}, {"read", "line"}, {"type", "nil"}, {"text", "nil"}, {"setkind r0 nil", "table"}, {"kind", "nil"}, {"rawget r0 1", "nil"}, {"rawset r0 1 nil", ""},
		{"task r1", "task"}, {"resume r2 5 6", "true 6 5"}, {"status r2", "new"}, {"giveup r2", "true"}, {"collect", "3"}, {"cells", "3"}, {"cells 1 2", "3"},
	} {
		code := woven(`
proto main
  table 0
  fn 1 f
  let 2 task r1
  all 3 ` + c.call + `
  return ~3
proto f params=2
  ret r1 r0
`)
		in := plenty()
		in.Lines = []string{"line"}
		got := impl.RunCode(code, in)
		if got.Code != 0 || strings.Join(got.Vals, " ") != c.vals || c.vals == "" && len(got.Vals) > 0 {
			t.Errorf("%s: %s", c.call, reportText(got))
		}
		holdEveryRun(t, c.call, code, in, got)
	}
}
