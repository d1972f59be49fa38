package tests

import (
	"fmt"
	"reflect"
	"slices"
	"strconv"
	"strings"
	"testing"

	"loop.example/punch/impl"
)

// looked is a code, an input (plenty if none is said), and what is asked for at each of its records: the record as reportText writes it, => and the View as viewText writes it.
type looked struct {
	name string
	code string
	want string
	in   *impl.Input
}

func (l looked) input() impl.Input { return ran{in: l.in}.input() }

// viewText writes a View: the task, then its open calls from the inside, with a | between them: fn@line and the variables. A text that would not be told from what stands around it is in quotes.
func viewText(v impl.View) string {
	if !v.Ok {
		if v.Task != 0 || len(v.Calls) > 0 {
			return "none, but not empty"
		}
		return "none"
	}
	var calls []string
	for _, open := range v.Calls {
		words := []string{fmt.Sprintf("%d@%d", open.Fn, open.Line)}
		for _, x := range open.Vars {
			text := x.Text
			if text == "" || strings.ContainsAny(text, " |\"\n") {
				text = strconv.Quote(text)
			}
			words = append(words, x.Name+"="+text)
		}
		calls = append(calls, strings.Join(words, " "))
	}
	return strings.TrimSpace(fmt.Sprintf("%d: %s", v.Task, strings.Join(calls, " | ")))
}

// looksOf is what is seen at each record of a run.
func looksOf(c impl.Code, in impl.Input) []impl.View {
	var views []impl.View
	for k := range impl.RunCode(c, in).Recs {
		views = append(views, impl.LookCode(c, in, k))
	}
	return views
}

func viewTexts(views []impl.View) []string {
	var out []string
	for _, v := range views {
		out = append(out, viewText(v))
	}
	return out
}

// looksText is a line for each record.
func looksText(c impl.Code, in impl.Input) string {
	var out []string
	for k, rec := range impl.RunCode(c, in).Recs {
		out = append(out, strings.TrimSpace(recText(rec))+" => "+viewText(impl.LookCode(c, in, k)))
	}
	return strings.Join(out, "\n")
}

func holdLooks(t *testing.T, all []looked) {
	t.Helper()
	for _, l := range all {
		c := woven(l.code)
		if fault := impl.CheckCode(c); fault != (impl.Fault{}) {
			t.Fatalf("%s: fault %v\n%.2000s", l.name, fault, impl.Listing(c))
		}
		if got, want := looksText(c, l.input()), trimmed(l.want); got != want {
			t.Errorf("%s: got\n%.5000s\nwant\n%.5000s", l.name, got, want)
			continue
		}
		holdEveryLook(t, l.name, c, l.input())
	}
}

// holdEveryLook holds what P9, P12 and P14 promise of all runs.
func holdEveryLook(t *testing.T, name string, c impl.Code, in impl.Input) {
	t.Helper()
	before, inBefore := copyCode(c), copyInput(in)
	report := impl.RunCode(c, in)
	views := looksOf(c, in)
	modelled, want := modelLooks(c, in)
	if !sameReports(report, modelled) || !sameViews(views, want) {
		t.Errorf("%s, held against the model: got\n%.3000s\nwant\n%.3000s\n%.3000s%v", name, looksText(c, in), strings.Join(viewTexts(want), "\n"), impl.Listing(c), c)
	}
	if again := looksOf(c, in); !reflect.DeepEqual(again, views) {
		t.Errorf("%s, asked again: %v, then %v", name, viewTexts(views), viewTexts(again))
	}
	if back := looksOf(impl.Decode(impl.Encode(c)), in); !reflect.DeepEqual(back, views) {
		t.Errorf("%s, read back from its image: %v, then %v", name, viewTexts(views), viewTexts(back))
	}
	holdNoLook(t, name, c, in, len(views))
	holdNameless(t, name, c, in, views)
	holdEarlyLooks(t, name, c, in, views)
	if !sameCodes(c, before) || !reflect.DeepEqual(in, inBefore) {
		t.Errorf("%s: the code or the input was changed", name)
	}
}

// sameViews takes an empty list and nil for the same.
func sameViews(a, b []impl.View) bool {
	return slices.EqualFunc(a, b, func(v, w impl.View) bool {
		return v.Ok == w.Ok && v.Task == w.Task && slices.EqualFunc(v.Calls, w.Calls, func(x, y impl.Open) bool {
			return x.Fn == y.Fn && x.Line == y.Line && slices.Equal(x.Vars, y.Vars)
		})
	})
}

// holdNoLook asks for the zero value outside of the records 0 .. n - 1.
func holdNoLook(t *testing.T, name string, c impl.Code, in impl.Input, n int) {
	t.Helper()
	for _, k := range []int{-1, -2, -n, -n - 1, leastInt, n, n + 1, n + 1000, impl.MaxRecs, impl.MaxRecs + 1, mostInt} {
		if k >= 0 && k < n {
			continue
		}
		if got := impl.LookCode(c, in, k); !sameViews([]impl.View{got}, []impl.View{{}}) {
			t.Errorf("%s: %d of %d records: %s", name, k, n, viewText(got))
		}
	}
}

// holdNameless asks that names change nothing but what is shown of variables.
func holdNameless(t *testing.T, name string, c impl.Code, in impl.Input, views []impl.View) {
	t.Helper()
	bare := nameless(c)
	if got, want := impl.RunCode(bare, in), impl.RunCode(c, in); !sameReports(got, want) {
		t.Errorf("%s, without names: %s\nwant %s", name, reportText(got), reportText(want))
	}
	var want []impl.View
	for _, v := range views {
		v.Calls = slices.Clone(v.Calls)
		for i := range v.Calls {
			v.Calls[i].Vars = nil
		}
		want = append(want, v)
	}
	if got := looksOf(bare, in); !sameViews(got, want) {
		t.Errorf("%s, without names: %v, want %v", name, viewTexts(got), viewTexts(want))
	}
}

// holdEarlyLooks asks that a run whose ticks are used up shows what the whole run shows, and nothing behind its last record.
func holdEarlyLooks(t *testing.T, name string, c impl.Code, in impl.Input, views []impl.View) {
	t.Helper()
	used := impl.RunCode(c, in).Ticks
	for ticks := range used {
		in.Ticks = ticks
		n := len(impl.RunCode(c, in).Recs)
		if got := looksOf(c, in); n > len(views) || !sameViews(got, views[:n]) {
			t.Errorf("%s with %d ticks: %v", name, ticks, viewTexts(got))
		}
		if got := impl.LookCode(c, in, n); got.Ok {
			t.Errorf("%s with %d ticks: record %d: %s", name, ticks, n, viewText(got))
		}
	}
}
