package tests

import (
	"math"
	"strings"

	"loop.example/punch/impl"
)

var (
	minusZero = math.Copysign(0, -1)
	inf       = math.Inf(1)
	nan       = math.NaN()
)

const (
	two53    = 1 << 53
	two63    = 1 << 63
	leastInt = math.MinInt64
	mostInt  = math.MaxInt64
)

func nilValue() impl.Value            { return impl.Value{Kind: impl.KNil} }
func intOf(n int64) impl.Value        { return impl.Value{Kind: impl.KInt, Num: n} }
func fltOf(f float64) impl.Value      { return impl.Value{Kind: impl.KFlt, Flt: f} }
func strOf(s string) impl.Value       { return impl.Value{Kind: impl.KStr, Str: s} }
func refOf(kind, ref int) impl.Value  { return impl.Value{Kind: kind, Ref: ref} }
func builtinOf(n int64) impl.Value    { return impl.Value{Kind: impl.KBuiltin, Num: n} }
func gives(v impl.Value) impl.Valued  { return impl.Valued{Value: v} }
func fails(code int) impl.Valued      { return impl.Valued{Code: code} }
func longStr(n int) impl.Value        { return strOf(strings.Repeat("x", n)) }
func next(f, towards float64) float64 { return math.Nextafter(f, towards) }

func boolOf(b bool) impl.Value {
	if b {
		return impl.Value{Kind: impl.KBool, Num: 1}
	}
	return impl.Value{Kind: impl.KBool}
}

// alike holds two values against each other field by field: floats by their bits, all NaNs as one.
func alike(a, b impl.Value) bool {
	if !math.IsNaN(a.Flt) || !math.IsNaN(b.Flt) {
		if math.Float64bits(a.Flt) != math.Float64bits(b.Flt) {
			return false
		}
	}
	return a.Kind == b.Kind && a.Num == b.Num && a.Str == b.Str && a.Ref == b.Ref
}

func alikeValued(a, b impl.Valued) bool { return a.Code == b.Code && alike(a.Value, b.Value) }

func edgeInts() []int64 {
	return []int64{
		0, 1, -1, 2, -2, 3, -3, 7, -7, 10, 63, 64, 65, 1 << 31, 1 << 32, -(1 << 32),
		two53 - 1, two53, two53 + 1, two53 + 2, two53 + 3, -two53 + 1, -two53, -two53 - 1, -two53 - 2, -two53 - 3,
		1 << 62, -(1 << 62), mostInt - 1024, mostInt - 512, mostInt - 511, mostInt - 1, mostInt, leastInt, leastInt + 1, leastInt + 1024,
	}
}

func edgeFloats() []float64 {
	one := []float64{
		0, 0.1, 0.5, 1, 1.5, 2, 2.5, 3, 7, 7.5, 8, 10, 1e10, 1e100, 1e300, 1e-300, two53 - 1, two53, two53 + 2, two53 - 0.5,
		next(two63, 0), two63, next(two63, inf), next(1, 0), next(1, 2), 5e-324, 1e-323, 0x1p-1022, next(0x1p-1022, 0), math.MaxFloat64, inf,
	}
	both := []float64{nan}
	for _, f := range one {
		both = append(both, f, -f)
	}
	return both
}

func edgeOthers() []impl.Value {
	return []impl.Value{
		nilValue(), boolOf(false), boolOf(true), strOf(""), strOf("a"), strOf("ab"), strOf("b"), strOf("B"), strOf("1"), strOf("\x00"), strOf("\xff"), strOf("\xc3\xa9"),
		longStr(impl.MaxStr - 1), longStr(impl.MaxStr), refOf(impl.KTable, 0), refOf(impl.KTable, 1), refOf(impl.KTable, math.MaxInt), refOf(impl.KFn, 0), refOf(impl.KFn, 1),
		refOf(impl.KTask, 0), refOf(impl.KTask, 1), builtinOf(0), builtinOf(1), builtinOf(impl.Builtins - 1),
	}
}

func goodNumbers() []impl.Value {
	var out []impl.Value
	for _, n := range edgeInts() {
		out = append(out, intOf(n))
	}
	for _, f := range edgeFloats() {
		out = append(out, fltOf(f))
	}
	return out
}

func goodValues() []impl.Value { return append(goodNumbers(), edgeOthers()...) }

// badValues has a value of each kind with each field that the kind does not use, and fields outside what the kind allows.
func badValues() []impl.Value {
	out := []impl.Value{
		{Kind: -1}, {Kind: impl.KBuiltin + 1}, {Kind: math.MinInt}, {Kind: math.MaxInt},
		{Kind: impl.KBool, Num: -1}, {Kind: impl.KBool, Num: 2}, {Kind: impl.KBool, Num: leastInt},
		{Kind: impl.KTable, Ref: -1}, {Kind: impl.KFn, Ref: -1}, {Kind: impl.KTask, Ref: -1}, {Kind: impl.KTask, Ref: math.MinInt},
		builtinOf(-1), builtinOf(impl.Builtins), builtinOf(leastInt), builtinOf(mostInt), longStr(impl.MaxStr + 1), longStr(2 * impl.MaxStr),
	}
	uses := []string{"", "Num", "Num", "Flt", "Str", "Ref", "Ref", "Ref", "Num"}
	for kind, used := range uses {
		if used != "Num" {
			out = append(out, impl.Value{Kind: kind, Num: 1}, impl.Value{Kind: kind, Num: -1})
		}
		if used != "Flt" {
			out = append(out, impl.Value{Kind: kind, Flt: 1}, impl.Value{Kind: kind, Flt: nan}, impl.Value{Kind: kind, Flt: -5e-324}, impl.Value{Kind: kind, Flt: inf})
		}
		if used != "Str" {
			out = append(out, impl.Value{Kind: kind, Str: "\x00"})
		}
		if used != "Ref" {
			out = append(out, impl.Value{Kind: kind, Ref: 1}, impl.Value{Kind: kind, Ref: -1})
		}
	}
	return out
}

func isNumber(v impl.Value) bool { return v.Kind == impl.KInt || v.Kind == impl.KFlt }

func isNaN(v impl.Value) bool { return v.Kind == impl.KFlt && math.IsNaN(v.Flt) }

// short keeps long strings out of the messages of tests.
func short(v impl.Value) impl.Value {
	if len(v.Str) > 20 {
		v.Str = v.Str[:20] + ".."
	}
	return v
}
