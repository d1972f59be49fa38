package tests

import (
	"reflect"
	"slices"
	"strings"
	"testing"

	"loop.example/punch/impl"
)

func plenty() impl.Input { return impl.Input{Ticks: 500, Depth: 10, Cells: 500} }

// ran is a code, an input (plenty if none is said) and the Report that is asked for.
type ran struct {
	name string
	code string
	want string
	in   *impl.Input
}

func (r ran) input() impl.Input {
	if r.in != nil {
		return *r.in
	}
	return plenty()
}

// holdRuns runs codes, and holds for each of them what holds for every run.
func holdRuns(t *testing.T, runs []ran) {
	t.Helper()
	for _, r := range runs {
		holdRun(t, r)
	}
}

func holdRun(t *testing.T, r ran) {
	t.Helper()
	c := woven(r.code)
	if fault := impl.CheckCode(c); fault != (impl.Fault{}) {
		t.Fatalf("%s: fault %v", r.name, fault)
	}
	got := impl.RunCode(c, r.input())
	if want := trimmed(r.want); reportText(got) != want {
		t.Errorf("%s: got\n%.3000s\nwant\n%.3000s\n%.2000s", r.name, reportText(got), want, impl.Listing(c))
		return
	}
	holdEveryRun(t, r.name, c, r.input(), got)
}

// holdEveryRun holds the promises that speak of all runs: P5, P7, P8, P9 and P14.
func holdEveryRun(t *testing.T, name string, c impl.Code, in impl.Input, got impl.Report) {
	t.Helper()
	if got.Code < 0 || got.Code > 2 {
		t.Errorf("%s: Code %d", name, got.Code)
	}
	holdSameRun(t, name+", asked again", c, in, got)
	if back := impl.Decode(impl.Encode(c)); !sameCodes(back, c) {
		t.Errorf("%s: not read back from its image", name)
	} else {
		holdSameRun(t, name+", read back from its image", back, in, got)
	}
	holdSameRun(t, name+", with names", named(c), in, got)
	holdSameRun(t, name+", without names", nameless(c), in, got)
	holdSameRun(t, name+", with unreached instructions", padded(c), in, got)
	if !throws(got, impl.ErrDepth) && !throws(got, impl.ErrCells) {
		holdSameRun(t, name+", with more allowed", c, withMore(in), got)
	}
	holdFewerTicks(t, name, c, in, got)
}

// holdSameRun asks for the same Report, and that nothing is written into the code and the input.
func holdSameRun(t *testing.T, name string, c impl.Code, in impl.Input, want impl.Report) {
	t.Helper()
	if fault := impl.CheckCode(c); fault != (impl.Fault{}) {
		t.Errorf("%s: fault %v", name, fault)
		return
	}
	before, inBefore := copyCode(c), copyInput(in)
	got := impl.RunCode(c, in)
	if !sameReports(got, want) {
		t.Errorf("%s: got\n%.2000s\nwant\n%.2000s", name, reportText(got), reportText(want))
	}
	if !sameCodes(c, before) || !reflect.DeepEqual(in, inBefore) {
		t.Errorf("%s: the code or the input was changed", name)
	}
}

// holdFewerTicks runs a code with each allowance below the ticks that it used.
func holdFewerTicks(t *testing.T, name string, c impl.Code, in impl.Input, whole impl.Report) {
	t.Helper()
	made := 0
	for ticks := range whole.Ticks {
		in.Ticks = ticks
		got := impl.RunCode(c, in)
		if got.Code != 2 || got.Ticks != ticks || len(got.Vals) > 0 || got.Error != "" || got.Trace != "" {
			t.Errorf("%s with %d ticks: %.2000s", name, ticks, reportText(got))
		}
		if n := len(got.Recs); n > len(whole.Recs) || !slices.Equal(got.Recs, whole.Recs[:n]) {
			t.Errorf("%s with %d ticks: the records are not the first ones of the run: %.2000s", name, ticks, reportText(got))
		}
		if got.Made < made || got.Made > whole.Made {
			t.Errorf("%s with %d ticks: made %d", name, ticks, got.Made)
		}
		made = got.Made
	}
	in.Ticks = whole.Ticks
	if got := impl.RunCode(c, in); !sameReports(got, whole) {
		t.Errorf("%s with the ticks that it used: %.2000s", name, reportText(got))
	}
}

func sameReports(a, b impl.Report) bool {
	return a.Code == b.Code && slices.Equal(a.Recs, b.Recs) && slices.Equal(a.Vals, b.Vals) &&
		a.Error == b.Error && a.Trace == b.Trace && a.Ticks == b.Ticks && a.Made == b.Made
}

func throws(r impl.Report, code int) bool {
	told := impl.Text(strOf("error ")) + impl.Text(intOf(int64(code)))
	return slices.ContainsFunc(r.Recs, func(x impl.Rec) bool { return x.Kind == impl.RecThrow && x.Text == told })
}

func withMore(in impl.Input) impl.Input {
	in.Depth, in.Cells = impl.MaxDepth, impl.MaxCells
	return in
}

func copyInput(in impl.Input) impl.Input {
	in.Args, in.Lines = slices.Clone(in.Args), slices.Clone(in.Lines)
	return in
}

// named has a name for each register at each instruction.
func named(c impl.Code) impl.Code {
	c = copyCode(c)
	for i := range c.Protos {
		p := &c.Protos[i]
		for reg := range p.Regs {
			p.Named = append(p.Named, impl.Named{Name: "name", Reg: reg, To: len(p.Ins)})
		}
	}
	return c
}

func nameless(c impl.Code) impl.Code {
	c = copyCode(c)
	for i := range c.Protos {
		c.Protos[i].Named = nil
	}
	return c
}

// padded has instructions that are never reached behind each one that does not go on with the next.
func padded(c impl.Code) impl.Code {
	c = copyCode(c)
	for i := range c.Protos {
		p := &c.Protos[i]
		for at := len(p.Ins) - 1; at >= 0; at-- {
			if op := p.Ins[at].Op; op != impl.IJump && op != impl.IReturn && op != impl.IThrow {
				continue
			}
			junk := []impl.Ins{do(impl.ILine, 99), do(impl.ITick), do(impl.ITable, 0), do(impl.IThrow, 0)}
			p.Ins = slices.Insert(p.Ins, at+1, junk...)
			shift(p, at+1, len(junk))
			for n := range p.Named {
				p.Named[n].To = min(p.Named[n].To, at+1)
				p.Named[n].From = min(p.Named[n].From, p.Named[n].To)
			}
		}
	}
	return c
}

// printed are the texts that were printed.
func printed(r impl.Report) string {
	var out []string
	for _, x := range r.Recs {
		if x.Kind == impl.RecPrint {
			out = append(out, x.Text)
		}
	}
	return strings.Join(out, "|")
}
