package tests

import (
	"math"
	"math/big"
	"strconv"
	"strings"
	"testing"

	"loop.example/punch/impl"
)

func TestTextOfKinds(t *testing.T) {
	for _, c := range []struct {
		v    impl.Value
		want string
	}{
		{nilValue(), "nil"}, {boolOf(true), "true"}, {boolOf(false), "false"}, {intOf(0), "0"}, {intOf(-1), "-1"}, {intOf(mostInt), "9223372036854775807"}, {intOf(leastInt), "-9223372036854775808"},
		{strOf(""), ""}, {strOf("a b\n\x00\xff"), "a b\n\x00\xff"}, {longStr(impl.MaxStr), strings.Repeat("x", impl.MaxStr)}, {longStr(impl.MaxStr + 1), ""},
		{refOf(impl.KTable, 7), "table"}, {refOf(impl.KFn, 0), "fn"}, {refOf(impl.KTask, math.MaxInt), "task"}, {builtinOf(0), "builtin"}, {builtinOf(impl.Builtins - 1), "builtin"},
	} {
		if got := impl.Text(c.v); got != c.want {
			t.Errorf("Text of %v is %.40q", short(c.v), got)
		}
	}
	for _, v := range badValues() {
		if got := impl.Text(v); got != "" {
			t.Errorf("Text of %v, which is not valid, is %.40q", short(v), got)
		}
	}
}

func TestTextOfFloats(t *testing.T) {
	for _, c := range []struct {
		f    float64
		want string
	}{
		{nan, "nan"}, {math.Float64frombits(0xfff0000000000001), "nan"}, {inf, "inf"}, {-inf, "-inf"}, {0, "0p0"}, {minusZero, "-0p0"},
		{1, "1p0"}, {-1, "-1p0"}, {1.5, "3p-1"}, {-8, "-1p3"}, {6, "3p1"}, {-0.75, "-3p-2"}, {0.1, "3602879701896397p-55"}, {two53 - 1, "9007199254740991p0"}, {two53, "1p53"},
		{two53 + 2, "4503599627370497p1"}, {two63, "1p63"}, {-two63, "-1p63"}, {5e-324, "1p-1074"}, {-5e-324, "-1p-1074"}, {1.5e-323, "3p-1074"}, {0x1p-1022, "1p-1022"},
		{next(0x1p-1022, 0), "4503599627370495p-1074"}, {next(0x1p-1022, 1), "4503599627370497p-1074"}, {math.MaxFloat64, "9007199254740991p971"}, {-math.MaxFloat64, "-9007199254740991p971"}, {0x1p1023, "1p1023"},
	} {
		if got := impl.Text(fltOf(c.f)); got != c.want {
			t.Errorf("Text of %v is %q, not %q", c.f, got, c.want)
		}
	}
}

// readBack makes the exact number of a text such as 3p-1 again; false when the text is not of that form.
func readBack(s string) (*big.Float, bool) {
	m, e, cut := strings.Cut(s, "p")
	mantissa, ok := new(big.Int).SetString(m, 10)
	exponent, err := strconv.Atoi(e)
	if !cut || !ok || err != nil || mantissa.Bit(0) == 0 || mantissa.String() != m || strconv.Itoa(exponent) != e {
		return nil, false
	}
	whole := new(big.Float).SetInt(mantissa)
	return whole.SetMantExp(whole, exponent), true
}

func TestTextOfFloatsIsExact(t *testing.T) {
	fs := edgeFloats()
	for e := -1074; e <= 1023; e++ {
		f := math.Ldexp(1, e)
		fs = append(fs, f, -f, next(f, inf), -next(f, 0))
	}
	for _, f := range fs {
		if !finite(f) || f == 0 {
			continue
		}
		got, ok := readBack(impl.Text(fltOf(f)))
		if !ok || got.Cmp(new(big.Float).SetFloat64(f)) != 0 {
			t.Errorf("Text of %v is %q", f, impl.Text(fltOf(f)))
		}
	}
}
