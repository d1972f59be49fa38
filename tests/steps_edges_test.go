package tests

import (
	"fmt"
	"math"
	"slices"
	"strings"
	"testing"

	"loop.example/punch/impl"
)

// inputCases are inputs at each limit and one past it.
func inputCases() []struct {
	name string
	in   impl.Input
	ok   bool
} {
	texts := func(n, long int) []string { return slices.Repeat([]string{strings.Repeat("x", long)}, n) }
	spoilt := func(change func(in *impl.Input)) impl.Input {
		in := plenty()
		change(&in)
		return in
	}
	return []struct {
		name string
		in   impl.Input
		ok   bool
	}{
		{"plenty", plenty(), true},
		{"nothing", impl.Input{}, false},
		{"the least", impl.Input{Depth: 1}, true},
		{"the most", impl.Input{Args: texts(200, 4000), Lines: texts(200, 4000), Ticks: 5000, Depth: 60, Cells: 20000}, true},
		{"empty texts", spoilt(func(in *impl.Input) { in.Args, in.Lines = texts(200, 0), texts(200, 0) }), true},
		{"empty lists", spoilt(func(in *impl.Input) { in.Args, in.Lines = []string{}, []string{} }), true},
		{"200 args", spoilt(func(in *impl.Input) { in.Args = texts(200, 1) }), true},
		{"201 args", spoilt(func(in *impl.Input) { in.Args = texts(201, 1) }), false},
		{"200 lines", spoilt(func(in *impl.Input) { in.Lines = texts(200, 1) }), true},
		{"201 lines", spoilt(func(in *impl.Input) { in.Lines = texts(201, 0) }), false},
		{"an arg of 4000 bytes", spoilt(func(in *impl.Input) { in.Args = []string{"a", strings.Repeat("x", 4000)} }), true},
		{"an arg of 4001 bytes", spoilt(func(in *impl.Input) { in.Args = []string{"a", strings.Repeat("x", 4001)} }), false},
		{"a first arg of 4001 bytes", spoilt(func(in *impl.Input) { in.Args = []string{strings.Repeat("x", 4001), "a"} }), false},
		{"a line of 4000 bytes", spoilt(func(in *impl.Input) { in.Lines = []string{strings.Repeat("é", 2000)} }), true},
		{"a line of 4002 bytes", spoilt(func(in *impl.Input) { in.Lines = []string{strings.Repeat("é", 2001)} }), false},
		{"a last line of 4001 bytes", spoilt(func(in *impl.Input) { in.Lines = append(texts(199, 1), texts(1, 4001)...) }), false},
		{"no ticks", spoilt(func(in *impl.Input) { in.Ticks = 0 }), true},
		{"ticks below 0", spoilt(func(in *impl.Input) { in.Ticks = -1 }), false},
		{"the least ticks", spoilt(func(in *impl.Input) { in.Ticks = math.MinInt }), false},
		{"5000 ticks", spoilt(func(in *impl.Input) { in.Ticks = 5000 }), true},
		{"5001 ticks", spoilt(func(in *impl.Input) { in.Ticks = 5001 }), false},
		{"no depth", spoilt(func(in *impl.Input) { in.Depth = 0 }), false},
		{"depth below 0", spoilt(func(in *impl.Input) { in.Depth = -1 }), false},
		{"depth 1", spoilt(func(in *impl.Input) { in.Depth = 1 }), true},
		{"depth 60", spoilt(func(in *impl.Input) { in.Depth = 60 }), true},
		{"depth 61", spoilt(func(in *impl.Input) { in.Depth = 61 }), false},
		{"no cells", spoilt(func(in *impl.Input) { in.Cells = 0 }), true},
		{"cells below 0", spoilt(func(in *impl.Input) { in.Cells = -1 }), false},
		{"20000 cells", spoilt(func(in *impl.Input) { in.Cells = 20000 }), true},
		{"20001 cells", spoilt(func(in *impl.Input) { in.Cells = 20001 }), false},
		{"cells without end", spoilt(func(in *impl.Input) { in.Cells = math.MaxInt }), false},
	}
}

func TestInputs(t *testing.T) {
	c := woven(`
proto main rest
  return ~0
`)
	for _, i := range inputCases() {
		if got := impl.InputOk(i.in); got != i.ok {
			t.Errorf("%s: InputOk %v", i.name, got)
		}
		want := impl.Report{Code: 3}
		if i.ok {
			want = impl.Report{Vals: i.in.Args}
		}
		if got := impl.RunCode(c, i.in); !sameReports(got, want) {
			t.Errorf("%s: %.200s", i.name, reportText(got))
		}
	}
}

// All that is allowed can be used, and not one more.
func TestMostTicksAndCells(t *testing.T) {
	most := impl.Input{Ticks: impl.MaxTicks, Depth: 1, Cells: impl.MaxCells}
	round := woven("proto main\nround:\n  tick\n  jump round")
	if got := impl.RunCode(round, most); !sameReports(got, impl.Report{Code: 2, Ticks: 5000}) {
		t.Error(reportText(got))
	}
	for _, n := range []int{4999, 5000, 5001} {
		// The loop has a tick a turn.
		c := woven(strings.ReplaceAll(`
proto main
  const 0 1
  const 1 N
  const 2 1
test:
  fortest 0 end
  tick
  fornext 0 test
end:
  ret
`, "N", fmt.Sprint(n)))
		if got := impl.RunCode(c, most); got.Code != map[bool]int{true: 2, false: 0}[n > 5000] || got.Ticks != min(n, 5000) {
			t.Errorf("%d ticks: %s", n, reportText(got))
		}
	}
	for _, extra := range []string{"", "table 3"} {
		c := woven(`
proto main
  const 0 1
  const 1 2500
  const 2 1
test:
  fortest 0 end
  tick
` + strings.Repeat("  table 3\n", 8) + `
  drop 3
  fornext 0 test
end:
  ` + extra + `
  ret
`)
		want := impl.Report{Ticks: 2500, Made: 20000}
		if extra != "" {
			want = impl.Report{Code: 1, Recs: []impl.Rec{{Kind: impl.RecThrow, Text: "error 9"}}, Error: "error 9", Trace: "main:0", Ticks: 2500, Made: 20000}
		}
		if got := impl.RunCode(c, most); !sameReports(got, want) {
			t.Errorf("%q: %.300s", extra, reportText(got))
		}
	}
}

// A list has MaxList values at the most; when one more would come it stays as it is.
func TestMaxList(t *testing.T) {
	code := func(n int, ins string) string {
		return `
proto main
  list 0
  const 1 7
` + strings.Repeat("  add 0 1\n", n) + `
  line 2
  try caught 3
  at 3
` + ins + `
  endtry
  pick 3 0 249
  pick 4 0 250
  ret "fine" r3 r4
caught:
  pick 5 0 ` + fmt.Sprint(n-1) + `
  pick 6 0 ` + fmt.Sprint(n) + `
  entry 3 r3 "code"
  ret r3 r4 r5 r6
`
	}
	fine := func(last string) string {
		return "line 0.0 2\n= 0 ticks 1 made 0\nvals fine " + last + " nil"
	}
	long := `
line 0.0 2
throw 0.0 3 error 4
catch 0.0 2 error 4
= 0 ticks 1 made 0
vals 4 main:3 7 nil
`
	holdRuns(t, []ran{
		{name: "the 250th", code: code(249, "add 0 1"), want: fine("7")},
		{name: "the 251st", code: code(250, "add 0 1"), want: long},
		{name: "no 250th", code: code(249, "tick; tick"), want: strings.Replace(fine("nil"), "ticks 1", "ticks 3", 1)},
		{name: "125 and 125", code: code(125, "join 0 0"), want: fine("7")},
		{name: "126 and 126", code: code(126, "join 0 0"), want: long},
		{name: "250 and none", code: code(250, "list 3; join 0 3; drop 3"), want: fine("7")},
		{name: "250 and one", code: code(250, "seq 3 1; join 0 ~3"), want: long},
		{name: "249 and one", code: code(249, "seq 3 1; join 0 ~3"), want: fine("1")},
		{name: "249 and two", code: code(249, "seq 3 1 2; join 0 3; drop 3"), want: long},
	})
}

// A list of one value that is put behind itself k times has 2 to the k values, or error 4 is thrown (P13).
func TestListsBehindThemselves(t *testing.T) {
	for k := 0; k <= 12; k++ {
		for _, joins := range []string{"  join 0 0\n", "  copy 1 0\n  join 0 ~1\n"} {
			c := woven("proto main\n  seq 0 \"x\"\n  line 1\n" + strings.Repeat(joins, k) + "  return 0")
			got := impl.RunCode(c, plenty())
			want := impl.Report{Recs: []impl.Rec{{Kind: impl.RecLine, Line: 1}}, Vals: slices.Repeat([]string{"x"}, 1<<k), Ticks: 1}
			if 1<<k > impl.MaxList {
				want.Recs = append(want.Recs, impl.Rec{Kind: impl.RecThrow, Line: 1, Text: "error 4"})
				want.Code, want.Vals, want.Error, want.Trace = 1, nil, "error 4", "main:1"
			}
			if !sameReports(got, want) {
				t.Errorf("%d times: %.300s", k, reportText(got))
			}
			holdEveryRun(t, "a list behind itself", c, plenty(), got)
		}
	}
}

// throwing throws and catches k times in each of its turns, for ever; each turn has a tick.
func throwing(k int) string {
	code := "proto main\nround:\n  tick\n"
	for i := range k {
		code += fmt.Sprintf("  try h%d 0\n  const 0 \"x\"\n  throw ~0\nh%d:\n  drop 0\n  drop 1\n", i, i)
	}
	return code + "  jump round"
}

// A code that throws and catches k times in each turn makes 2 * k records a turn, and MaxRecs at the most (P13).
func TestRecordsOfThrowing(t *testing.T) {
	for _, ticks := range []int{0, 1, 7, 100} {
		for _, k := range []int{0, 1, 2, 9, 40} {
			c := woven(throwing(k))
			got := impl.RunCode(c, impl.Input{Ticks: ticks, Depth: 1})
			if got.Code != 2 || got.Ticks != ticks || len(got.Recs) != 2*k*ticks {
				t.Errorf("%d times in %d turns: %.300s", k, ticks, reportText(got))
			}
			for i, r := range got.Recs {
				if want := (impl.Rec{Kind: impl.RecThrow + i%2, Text: "x"}); r != want {
					t.Fatalf("%d times in %d turns: record %d is %v", k, ticks, i, r)
				}
			}
		}
	}
	for _, k := range []int{9, 10, 11, 20, 30, 300} {
		got := impl.RunCode(woven(throwing(k)), impl.Input{Ticks: impl.MaxTicks, Depth: 1})
		// With the last record made, the run is over when one more is due.
		ticks := min(impl.MaxTicks, impl.MaxRecs/(2*k)+1)
		if got.Code != 2 || got.Ticks != ticks || len(got.Recs) != min(impl.MaxRecs, 2*k*ticks) {
			t.Errorf("%d times in each turn: Code %d, %d ticks, %d records", k, got.Code, got.Ticks, len(got.Recs))
		}
	}
}

// manyRecords makes n records (of 99960 and more) in the text, and goes on there.
func manyRecords(n int, then string) string {
	code := `
proto main
  const 0 1
  const 1 2499
  const 2 1
round:
  tick
`
	for i := range 20 {
		code += fmt.Sprintf("  try h%d 3\n  const 3 \"x\"\n  throw ~3\nh%d:\n  drop 3\n  drop 4\n", i, i)
	}
	return code + `
  fornext 0 next
  jump end
next:
  fortest 0 end
  jump round
end:
  drop 0
  drop 1
  drop 2
` + strings.Repeat("  line 1\n", n-99960) + then
}

// recording makes a record of each kind, in two tasks and with a last word, with guards and defers on the way.
const recording = `
  fn 0 f
  line 2
  let 1 task r0
  do resume r1
  do giveup r1
  let 1 task r0
  do resume r1
  do resume r1
  table 2
  table 3
  fn 4 last
  field 3 "last" ~r4
  do setkind ~r2 ~r3
  do collect
  fn 1 throw
  let 1 task ~r1
  do resume r1
  scope 0
  later print "d"
  ret
proto f
  try caught 0
  scope 0
  later print "a"
  later setkind
  leave
  ret
caught:
  do print r1
  do yield
  ret
proto last
  raise "x"
proto throw
  raise "y"
`

// Whatever the record is that is one too many, the run is over there (5.1).
func TestMaxRecs(t *testing.T) {
	in := impl.Input{Ticks: impl.MaxTicks, Depth: 5, Cells: 100}
	short := impl.RunCode(woven("proto main\n"+recording), in)
	if short.Code != 0 || len(short.Recs) < 30 || len(short.Recs) > 40 {
		t.Fatal(reportText(short))
	}
	for left := 0; left <= len(short.Recs)+1; left++ {
		c := woven(manyRecords(impl.MaxRecs-min(left, 40), recording))
		if fault := impl.CheckCode(c); fault != (impl.Fault{}) {
			t.Fatal(fault)
		}
		got := impl.RunCode(c, in)
		if left < len(short.Recs) {
			if got.Code != 2 || len(got.Recs) != impl.MaxRecs || !slices.Equal(got.Recs[impl.MaxRecs-left:], short.Recs[:left]) {
				t.Errorf("%d left: Code %d, %d records", left, got.Code, len(got.Recs))
			}
		} else if got.Code != 0 || len(got.Recs) != impl.MaxRecs-left+len(short.Recs) {
			t.Errorf("%d left: Code %d, %d records", left, got.Code, len(got.Recs))
		}
	}
}
