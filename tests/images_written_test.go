package tests

import (
	"math"
	"slices"
	"strings"
	"testing"

	"loop.example/punch/impl"
)

// loneImage is the image of a text with one jump to itself; what is given stands where its consts do.
func loneImage(consts ...byte) []byte {
	head := []byte{72, 67, 1, 2, 0, 0, 0, 0, 0, 0}
	tail := []byte{2, 38, 0, 0, 0, 0, 0}
	return joined(head, consts, tail)
}

func lone(consts ...impl.Value) impl.Code {
	return codeOf(impl.Proto{Consts: consts, Ins: []impl.Ins{do(impl.IJump, 0)}})
}

func TestImageOfTheLeastCode(t *testing.T) {
	holdImage(t, "a jump to itself", lone(), []byte{72, 67, 1, 2, 0, 0, 0, 0, 0, 0, 0, 2, 38, 0, 0, 0, 0, 0})
	holdImage(t, "no consts", lone(), loneImage(0))
}

func TestImagesOfConsts(t *testing.T) {
	for _, c := range []struct {
		value impl.Value
		want  []byte
	}{
		{nilValue(), []byte{0}},
		{boolOf(false), []byte{1, 0}},
		{boolOf(true), []byte{1, 2}},
		{intOf(0), []byte{2, 0}},
		{intOf(-1), []byte{2, 1}},
		{intOf(300), []byte{2, 216, 4}},
		{fltOf(0), []byte{3, 0, 0, 0, 0, 0, 0, 0, 0}},
		{fltOf(minusZero), []byte{3, 128, 0, 0, 0, 0, 0, 0, 0}},
		{fltOf(1), []byte{3, 63, 240, 0, 0, 0, 0, 0, 0}},
		{fltOf(-2.5), []byte{3, 192, 4, 0, 0, 0, 0, 0, 0}},
		{fltOf(0.1), []byte{3, 63, 185, 153, 153, 153, 153, 153, 154}},
		{fltOf(math.Float64frombits(0x0102030405060708)), []byte{3, 1, 2, 3, 4, 5, 6, 7, 8}},
		{fltOf(math.Float64frombits(0xf8f7f6f5f4f3f2f1)), []byte{3, 248, 247, 246, 245, 244, 243, 242, 241}},
		{fltOf(inf), []byte{3, 127, 240, 0, 0, 0, 0, 0, 0}},
		{fltOf(-inf), []byte{3, 255, 240, 0, 0, 0, 0, 0, 0}},
		{fltOf(5e-324), []byte{3, 0, 0, 0, 0, 0, 0, 0, 1}},
		{fltOf(-5e-324), []byte{3, 128, 0, 0, 0, 0, 0, 0, 1}},
		{fltOf(next(0x1p-1022, 0)), []byte{3, 0, 15, 255, 255, 255, 255, 255, 255}},
		{fltOf(0x1p-1022), []byte{3, 0, 16, 0, 0, 0, 0, 0, 0}},
		{fltOf(math.MaxFloat64), []byte{3, 127, 239, 255, 255, 255, 255, 255, 255}},
		{fltOf(-math.MaxFloat64), []byte{3, 255, 239, 255, 255, 255, 255, 255, 255}},
		{strOf(""), []byte{4, 0}},
		{strOf("hi"), []byte{4, 4, 104, 105}},
		{strOf("\x00\xff\x80"), []byte{4, 6, 0, 255, 128}},
		{strOf("\u00e9"), []byte{4, 4, 195, 169}},
		{longStr(63), joined([]byte{4, 126}, []byte(strings.Repeat("x", 63)))},
		{longStr(64), joined([]byte{4, 128, 1}, []byte(strings.Repeat("x", 64)))},
		{longStr(impl.MaxStr), joined([]byte{4, 192, 62}, []byte(strings.Repeat("x", 4000)))},
		{builtinOf(impl.BPrint), []byte{8, 0}},
		{builtinOf(impl.BCells), []byte{8, 28}},
	} {
		holdImage(t, "const "+impl.Text(short(c.value)), lone(c.value), loneImage(joined([]byte{2}, c.want)...))
		holdImage(t, "twice const "+impl.Text(short(c.value)), lone(c.value, c.value), loneImage(joined([]byte{4}, c.want, c.want)...))
	}
}

// numberImages are numbers on both sides of each step from one group to the next.
func numberImages() map[int64][]byte {
	most, least := []byte{254}, []byte{255}
	all := map[int64][]byte{0: {0}, -1: {1}, 1: {2}, -2: {3}, 2: {4}, 62: {124}, 63: {126}, -63: {125}, -64: {127}}
	for n := int64(64); n > 0 && n <= 1<<62; n <<= 7 {
		// n is the first that has a group more.
		all[n-1] = joined(most[:len(most)-1], []byte{most[len(most)-1] - 128})
		all[-n] = joined(least[:len(least)-1], []byte{least[len(least)-1] - 128})
		all[n] = joined([]byte{128}, slices.Repeat([]byte{128}, len(most)-1), []byte{1})
		all[-n-1] = joined([]byte{129}, slices.Repeat([]byte{128}, len(most)-1), []byte{1})
		most, least = append(most, 255), append(least, 255)
	}
	return all
}

func TestImagesOfNumbers(t *testing.T) {
	all := numberImages()
	for n, want := range map[int64][]byte{
		63: {126}, 64: {128, 1}, -64: {127}, -65: {129, 1}, 8191: {254, 127}, 8192: {128, 128, 1}, -8192: {255, 127}, -8193: {129, 128, 1},
		1<<62 - 1:      {254, 255, 255, 255, 255, 255, 255, 255, 127},
		1 << 62:        {128, 128, 128, 128, 128, 128, 128, 128, 128, 1},
		-(1 << 62):     {255, 255, 255, 255, 255, 255, 255, 255, 127},
		-(1 << 62) - 1: {129, 128, 128, 128, 128, 128, 128, 128, 128, 1},
	} {
		if !slices.Equal(all[n], want) {
			t.Fatalf("the rule of these tests: %d: %v, want %v", n, all[n], want)
		}
	}
	all[mostInt] = []byte{254, 255, 255, 255, 255, 255, 255, 255, 255, 1}
	all[mostInt-1] = []byte{252, 255, 255, 255, 255, 255, 255, 255, 255, 1}
	all[leastInt] = []byte{255, 255, 255, 255, 255, 255, 255, 255, 255, 1}
	all[leastInt+1] = []byte{253, 255, 255, 255, 255, 255, 255, 255, 255, 1}
	for n, want := range all {
		holdImage(t, "int "+impl.Text(intOf(n)), lone(intOf(n)), loneImage(joined([]byte{2, 2}, want)...))
	}
}

// insFrame has an instruction as number 0 of proto 1, which has 7 registers, 2 ups and 3 consts.
func insFrame(ins impl.Ins) impl.Code {
	return codeOf(
		impl.Proto{Regs: 3, Ins: []impl.Ins{do(impl.IFn, 0, 1), do(impl.IJump, 0)}},
		impl.Proto{Regs: 7, Ups: []impl.Up{{Local: true, Index: 2}, {Local: true}}, Consts: make([]impl.Value, 3), Ins: []impl.Ins{ins, do(impl.IJump, 1)}})
}

func TestImagesOfInstructions(t *testing.T) {
	cases := []struct {
		ins    impl.Ins
		image  []byte
		listed string
	}{
		{do(impl.ILine, 1), []byte{2, 2, 0, 0, 0}, "line 1 0 0 0"},
		{do(impl.ILine, 100000), []byte{2, 192, 154, 12, 0, 0, 0}, "line 100000 0 0 0"},
		{do(impl.IAt, 0), []byte{4, 0, 0, 0, 0}, "at 0 0 0 0"},
		{do(impl.IAt, 63), []byte{4, 126, 0, 0, 0}, "at 63 0 0 0"},
		{do(impl.IAt, 64), []byte{4, 128, 1, 0, 0, 0}, "at 64 0 0 0"},
		{do(impl.IAt, 8191), []byte{4, 254, 127, 0, 0, 0}, "at 8191 0 0 0"},
		{do(impl.IAt, 8192), []byte{4, 128, 128, 1, 0, 0, 0}, "at 8192 0 0 0"},
		{do(impl.ITick), []byte{6, 0, 0, 0, 0}, "tick 0 0 0 0"},
		{do(impl.IConst, 6, 2), []byte{8, 12, 4, 0, 0}, "const 6 2 0 0"},
		{do(impl.IMove, 1, 5), []byte{10, 2, 10, 0, 0}, "move 1 5 0 0"},
		{do(impl.IMove, 1, -1), []byte{10, 2, 1, 0, 0}, "move 1 -1 0 0"},
		{do(impl.IBox, 2, -7), []byte{12, 4, 13, 0, 0}, "box 2 -7 0 0"},
		{do(impl.IGet, 3, 4), []byte{14, 6, 8, 0, 0}, "get 3 4 0 0"},
		{do(impl.IPut, 4, -2), []byte{16, 8, 3, 0, 0}, "put 4 -2 0 0"},
		{do(impl.IUpGet, 5, 1), []byte{18, 10, 2, 0, 0}, "upget 5 1 0 0"},
		{do(impl.IUpPut, 1, -3), []byte{20, 2, 5, 0, 0}, "upput 1 -3 0 0"},
		{do(impl.ITable, 6), []byte{24, 12, 0, 0, 0}, "table 6 0 0 0"},
		{do(impl.IRaw, 1, -2, 3), []byte{26, 2, 3, 6, 0}, "raw 1 -2 3 0"},
		{do(impl.IRawAll, 4, 5, -7), []byte{28, 8, 10, 13, 0}, "rawall 4 5 -7 0"},
		{do(impl.IIndex, 0, -1, -2), []byte{30, 0, 1, 3, 0}, "index 0 -1 -2 0"},
		{do(impl.ISet, -1, -2, -3), []byte{32, 1, 3, 5, 0}, "set -1 -2 -3 0"},
		{do(impl.IUnary, 1, impl.OpNeg, -4), []byte{34, 2, 38, 7, 0}, "unary 1 19 -4 0"},
		{do(impl.IUnary, 1, 22, 6), []byte{34, 2, 44, 12, 0}, "unary 1 22 6 0"},
		{do(impl.IBinary, 2, impl.OpAdd, -5, -6), []byte{36, 4, 2, 9, 11}, "binary 2 1 -5 -6"},
		{do(impl.IBinary, 3, 18, 4, 5), []byte{36, 6, 36, 8, 10}, "binary 3 18 4 5"},
		{do(impl.IJump, 1), []byte{38, 2, 0, 0, 0}, "jump 1 0 0 0"},
		{do(impl.IIf, -7, 1), []byte{40, 13, 2, 0, 0}, "if -7 1 0 0"},
		{do(impl.IUnless, 6, 1), []byte{42, 12, 2, 0, 0}, "unless 6 1 0 0"},
		{do(impl.IList, 3), []byte{44, 6, 0, 0, 0}, "list 3 0 0 0"},
		{do(impl.IAdd, 3, -4), []byte{46, 6, 7, 0, 0}, "add 3 -4 0 0"},
		{do(impl.IJoin, 5, 4), []byte{48, 10, 8, 0, 0}, "join 5 4 0 0"},
		{do(impl.IFirst, 1, -2), []byte{50, 2, 3, 0, 0}, "first 1 -2 0 0"},
		{do(impl.IPick, 1, 2, 250), []byte{52, 2, 4, 244, 3, 0}, "pick 1 2 250 0"},
		{do(impl.ICopy, 6, 5), []byte{54, 12, 10, 0, 0}, "copy 6 5 0 0"},
		{do(impl.ICall, 1, -3, -5), []byte{56, 2, 5, 9, 0}, "call 1 -3 -5 0"},
		{do(impl.IReturn, -6), []byte{58, 11, 0, 0, 0}, "return -6 0 0 0"},
		{do(impl.IThrow, 2), []byte{60, 4, 0, 0, 0}, "throw 2 0 0 0"},
		{do(impl.ITry, 1, 5), []byte{62, 2, 10, 0, 0}, "try 1 5 0 0"},
		{do(impl.IEndTry), []byte{64, 0, 0, 0, 0}, "endtry 0 0 0 0"},
		{do(impl.IScope, 7), []byte{66, 14, 0, 0, 0}, "scope 7 0 0 0"},
		{do(impl.IKeep, 6), []byte{68, 12, 0, 0, 0}, "keep 6 0 0 0"},
		{do(impl.IDefer, -1, -2), []byte{70, 1, 3, 0, 0}, "defer -1 -2 0 0"},
		{do(impl.ILeave), []byte{72, 0, 0, 0, 0}, "leave 0 0 0 0"},
		{do(impl.IFor, 4), []byte{74, 8, 0, 0, 0}, "for 4 0 0 0"},
		{do(impl.IForTest, 3, 1), []byte{76, 6, 2, 0, 0}, "fortest 3 1 0 0"},
		{do(impl.IForNext, 2, 1), []byte{78, 4, 2, 0, 0}, "fornext 2 1 0 0"},
		{do(impl.IEach, 5), []byte{80, 10, 0, 0, 0}, "each 5 0 0 0"},
		{do(impl.IEachNext, 5, 1, 4), []byte{82, 10, 2, 8, 0}, "eachnext 5 1 4 0"},
		{do(impl.IDrop, 6), []byte{84, 12, 0, 0, 0}, "drop 6 0 0 0"},
	}
	ahead := []byte{
		72, 67, 1, 4,
		0, 0, 0, 0, 6, 0, 0, 4, 22, 0, 2, 0, 0, 38, 0, 0, 0, 0, 0,
		0, 0, 0, 0, 14, 4, 1, 4, 1, 0, 6, 0, 0, 0, 4,
	}
	behind := []byte{38, 2, 0, 0, 0, 0}
	seen := map[int]bool{impl.IFn: true}
	for _, c := range cases {
		seen[c.ins.Op] = true
		holdImage(t, c.listed, insFrame(c.ins), joined(ahead, c.image, behind))
		want := "0:0 fn 0 1 0 0\n0:1 jump 0 0 0 0\n1:0 " + c.listed + "\n1:1 jump 1 0 0 0\n"
		if got := impl.Listing(insFrame(c.ins)); got != want {
			t.Errorf("%v: listing %q, want %q", c.ins, got, want)
		}
	}
	if len(seen) != impl.ILast {
		t.Errorf("only %d instructions are written out", len(seen))
	}
}

// fullCode has something in every field.
func fullCode() impl.Code {
	return codeOf(
		impl.Proto{
			Name: "text", Line: 64, Rest: true, Regs: 3,
			Consts: []impl.Value{intOf(-65), nilValue(), strOf("k")},
			Ins:    []impl.Ins{do(impl.IConst, 1, 0), do(impl.IBox, 1, -2), do(impl.IFn, 2, 1), do(impl.ICall, 0, 2, -1), do(impl.IReturn, 0)},
			Named:  []impl.Named{{Name: "x", Reg: 1, From: 2, To: 5}, {Name: "\xff\x00", Reg: 0, From: 5, To: 5}},
		},
		impl.Proto{
			Name: "f", Line: 100000, Params: 2, Rest: true, Regs: 5,
			Ups:    []impl.Up{{Local: true, Index: 1}, {Local: true, Index: 2}},
			Consts: []impl.Value{fltOf(-1.5), boolOf(true), builtinOf(impl.BKind)},
			Ins:    []impl.Ins{do(impl.IFn, 4, 2), do(impl.IReturn, -3)},
		},
		impl.Proto{
			Line: 1, Params: 70, Regs: 250,
			Ups:   []impl.Up{{Index: 1}, {Local: true, Index: 4}, {Index: 0}},
			Ins:   []impl.Ins{do(impl.IBinary, 249, impl.OpJoin, -250, 70), do(impl.IThrow, -64), do(impl.IThrow, -65)},
			Named: []impl.Named{{Name: strings.Repeat("n", impl.MaxName), Reg: 249, From: 0, To: 3}},
		})
}

func fullImage() []byte {
	return joined([]byte{72, 67, 1, 6},
		[]byte{8, 't', 'e', 'x', 't', 128, 1, 0, 1, 6},
		[]byte{0},
		[]byte{6, 2, 129, 1, 0, 4, 2, 'k'},
		[]byte{10, 8, 2, 0, 0, 0, 12, 2, 3, 0, 0, 22, 4, 2, 0, 0, 56, 0, 4, 1, 0, 58, 0, 0, 0, 0},
		[]byte{4, 2, 'x', 2, 4, 10, 4, 255, 0, 0, 10, 10},

		[]byte{2, 'f', 192, 154, 12, 4, 1, 10},
		[]byte{4, 1, 2, 1, 4},
		[]byte{6, 3, 191, 248, 0, 0, 0, 0, 0, 0, 1, 2, 8, 10},
		[]byte{4, 22, 8, 4, 0, 0, 58, 5, 0, 0, 0},
		[]byte{0},

		[]byte{0, 2, 140, 1, 0, 244, 3},
		[]byte{6, 0, 2, 1, 8, 0, 0},
		[]byte{0},
		[]byte{6, 36, 242, 3, 24, 243, 3, 140, 1, 60, 127, 0, 0, 0, 60, 129, 1, 0, 0, 0},
		[]byte{2, 80}, []byte(strings.Repeat("n", 40)), []byte{242, 3, 0, 6})
}

func TestImageOfAFullCode(t *testing.T) {
	holdImage(t, "full", fullCode(), fullImage())
	want := "0:0 const 1 0 0 0\n0:1 box 1 -2 0 0\n0:2 fn 2 1 0 0\n0:3 call 0 2 -1 0\n0:4 return 0 0 0 0\n" +
		"1:0 fn 4 2 0 0\n1:1 return -3 0 0 0\n" +
		"2:0 binary 249 12 -250 70\n2:1 throw -64 0 0 0\n2:2 throw -65 0 0 0\n"
	if got := impl.Listing(fullCode()); got != want {
		t.Errorf("listing\n%s, want\n%s", got, want)
	}
}

// A code that has the right shape has an image and a listing, whatever the verifier says.
func TestImageOfACodeThatIsNotVerified(t *testing.T) {
	for name, c := range map[string]struct {
		code   impl.Code
		image  []byte
		listed string
	}{
		"a round without a tick": {lone(), loneImage(0), "0:0 jump 0 0 0 0\n"},
		"nothing to throw": {
			codeOf(impl.Proto{Regs: 1, Ins: []impl.Ins{do(impl.IThrow, -1)}}),
			[]byte{72, 67, 1, 2, 0, 0, 0, 0, 2, 0, 0, 2, 60, 1, 0, 0, 0, 0}, "0:0 throw -1 0 0 0\n"},
		"no guard": {
			codeOf(impl.Proto{Ins: []impl.Ins{do(impl.IEndTry), do(impl.IJump, 0)}}),
			[]byte{72, 67, 1, 2, 0, 0, 0, 0, 0, 0, 0, 4, 64, 0, 0, 0, 0, 38, 0, 0, 0, 0, 0}, "0:0 endtry 0 0 0 0\n0:1 jump 0 0 0 0\n"},
	} {
		if impl.CheckCode(c.code) == (impl.Fault{}) {
			t.Errorf("%s: is verified", name)
		}
		holdImage(t, name, c.code, c.image)
		if got := impl.Listing(c.code); got != c.listed {
			t.Errorf("%s: listing %q", name, got)
		}
	}
}
