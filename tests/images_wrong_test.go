package tests

import (
	"math/big"
	"slices"
	"strings"
	"testing"

	"loop.example/punch/impl"
)

// smallImages are those in which every byte is spoilt.
func smallImages() map[string][]byte {
	all := map[string][]byte{"lone": loneImage(0), "full": fullImage(), "consts": modelImage(lone(nilValue(), boolOf(true), intOf(-65), fltOf(minusZero), strOf("hi"), builtinOf(3)))}
	for name, sheets := range writtenSheets() {
		all[name] = modelImage(codeOfSheets(sheets))
	}
	return all
}

func TestCodesOfAWrongShape(t *testing.T) {
	holdNothing(t, "no protos", impl.Code{})
	holdNothing(t, "an empty list of protos", impl.Code{Protos: []impl.Proto{}})
	for _, s := range orderSpoils() {
		c := soundCode()
		holdImage(t, "sound", c, modelImage(c))
		s.spoil(&c)
		if impl.CheckShape(c) != s.want {
			t.Fatalf("%s: %v", s.name, impl.CheckShape(c))
		}
		holdNothing(t, s.name, c)
		holdUnread(t, s.name, modelImage(c))
	}
}

func TestNoBytes(t *testing.T) {
	holdUnread(t, "nil", nil)
	holdUnread(t, "none", []byte{})
	holdUnread(t, "no protos", []byte{72, 67, 1, 0})
}

func TestOtherFirstBytes(t *testing.T) {
	for name, image := range smallImages() {
		for at := range 3 {
			for b := range 256 {
				other := slices.Clone(image)
				other[at] = byte(b)
				if b != int(image[at]) {
					holdUnread(t, name, other)
				}
			}
		}
		holdUnread(t, name+" without its first bytes", image[3:])
	}
}

func TestImagesThatAreCutOff(t *testing.T) {
	for name, image := range smallImages() {
		for n := range image {
			holdUnread(t, name, image[:n])
			holdUnread(t, name+" with room behind", append(slices.Clone(image[:n]), image[n:]...)[:n])
		}
	}
}

func TestImagesWithBytesBehind(t *testing.T) {
	for name, image := range smallImages() {
		for b := range 256 {
			holdUnread(t, name, joined(image, []byte{byte(b)}))
		}
		holdUnread(t, name+" twice", joined(image, image))
		holdUnread(t, name+" and many", joined(image, make([]byte, 1000)))
	}
}

// Each byte as every other one, doubled and left out.
func TestEachByteSpoilt(t *testing.T) {
	for name, image := range smallImages() {
		for at := range image {
			for b := range 256 {
				if name != "lone" && name != "full" && name != "consts" && b > 9 && b != 127 && b != 128 && b != 255 {
					continue
				}
				other := slices.Clone(image)
				other[at] = byte(b)
				if holdBytes(t, name, other) && b != int(image[at]) && name == "lone" && at != 5 && at != 8 {
					t.Errorf("%v is read", other)
				}
			}
			holdBytes(t, name+" with a byte twice", slices.Insert(slices.Clone(image), at, image[at]))
			holdBytes(t, name+" without a byte", slices.Delete(slices.Clone(image), at, at+1))
		}
	}
}

// Every number of an image, with a group of zeros behind it, and with more of them.
func TestNumbersWithMoreGroups(t *testing.T) {
	for name, image := range smallImages() {
		for at, b := range image {
			if b >= 128 {
				continue
			}
			for more := range 12 {
				groups := joined([]byte{b | 128}, slices.Repeat([]byte{128}, more), []byte{0})
				holdBytes(t, name, slices.Replace(slices.Clone(image), at, at+1, groups...))
			}
		}
	}
	for n, groups := range numberImages() {
		for more := range 12 {
			longer := slices.Clone(groups)
			longer[len(longer)-1] |= 128
			longer = append(longer, append(slices.Repeat([]byte{128}, more), 0)...)
			holdUnread(t, "int "+impl.Text(intOf(n)), loneImage(joined([]byte{2, 2}, longer)...))
		}
	}
	for _, c := range []struct {
		name  string
		image []byte
	}{
		{"two groups for one proto", []byte{72, 67, 1, 130, 0, 0, 0, 0, 0, 0, 0, 0, 2, 38, 0, 0, 0, 0, 0}},
		{"two groups for no line", []byte{72, 67, 1, 2, 0, 128, 0, 0, 0, 0, 0, 0, 2, 38, 0, 0, 0, 0, 0}},
		{"two groups for an Op", []byte{72, 67, 1, 2, 0, 0, 0, 0, 0, 0, 0, 2, 166, 0, 0, 0, 0, 0, 0}},
		{"two groups for the last number", []byte{72, 67, 1, 2, 0, 0, 0, 0, 0, 0, 0, 2, 38, 0, 0, 0, 0, 128, 0}},
		{"a number that does not end", []byte{72, 67, 1, 2, 0, 0, 0, 0, 0, 0, 0, 2, 38, 0, 0, 0, 0, 128}},
		{"numbers without an end", joined([]byte{72, 67, 1}, slices.Repeat([]byte{128}, 100))},
	} {
		holdUnread(t, c.name, c.image)
	}
}

func TestNumbersOfMoreThan64Bits(t *testing.T) {
	one := big.NewInt(1)
	two64 := new(big.Int).Lsh(one, 64)
	for bits := uint(63); bits < 140; bits++ {
		above := new(big.Int).Lsh(one, bits)
		below := new(big.Int).Not(above)
		for _, n := range []*big.Int{above, below, new(big.Int).Add(above, one), new(big.Int).Sub(below, one), new(big.Int).Add(above, big.NewInt(300))} {
			holdUnread(t, n.String(), loneImage(joined([]byte{2, 2}, modelNumber(n))...))
		}
	}
	// Those that would be right without what is above 64 bits.
	for _, n := range []int64{0, 1, -1, 2, 64, -65, 1 << 40} {
		for _, times := range []int64{1, 2, 3, 63, 64, 128, 1 << 20} {
			more := new(big.Int).Mul(two64, big.NewInt(times))
			n := big.NewInt(n)
			if n.Sign() < 0 {
				more.Neg(more)
			}
			holdUnread(t, n.String()+" and more", loneImage(joined([]byte{2, 2}, modelNumber(more.Add(more, n)))...))
		}
	}
	// The count of protos, a line, an Op and the last count, each with 2^64 more than it has to be.
	for _, at := range []int{3, 5, 12, 17} {
		image := loneImage(0)
		n := new(big.Int).Add(two64, big.NewInt(int64(image[at]/2)))
		holdUnread(t, "2^64 more", slices.Replace(image, at, at+1, modelNumber(n)...))
	}
}

func TestOtherFlags(t *testing.T) {
	rest := []byte{72, 67, 1, 2, 0, 0, 0, 1, 2, 0, 0, 2, 38, 0, 0, 0, 0, 0}
	local := []byte{72, 67, 1, 4, 0, 0, 0, 0, 2, 0, 0, 4, 22, 0, 2, 0, 0, 38, 0, 0, 0, 0, 0, 0, 0, 0, 0, 0, 2, 1, 0, 0, 2, 38, 0, 0, 0, 0, 0}
	for _, c := range []struct {
		name  string
		image []byte
		at    int
		zero  bool
	}{{"Rest", rest, 7, true}, {"Local", local, 29, false}} {
		if c.image[c.at] != 1 || isZeroCode(impl.Decode(c.image)) {
			t.Fatalf("%s: %v is not read", c.name, c.image)
		}
		for b := range 256 {
			image := slices.Clone(c.image)
			image[c.at] = byte(b)
			if got := !isZeroCode(impl.Decode(image)); got != (b == 1 || b == 0 && c.zero) {
				t.Errorf("%s as %d: %v", c.name, b, got)
			}
		}
	}
}

func TestOtherKinds(t *testing.T) {
	for kind := range 256 {
		image := loneImage(2, byte(kind))
		if got := isZeroCode(impl.Decode(image)); got != (kind != impl.KNil) {
			t.Errorf("kind %d with nothing behind it", kind)
		}
		image = loneImage(2, byte(kind), 0)
		isRight := kind == impl.KBool || kind == impl.KInt || kind == impl.KStr || kind == impl.KBuiltin
		if got := isZeroCode(impl.Decode(image)); got != !isRight {
			t.Errorf("kind %d with a 0 behind it", kind)
		}
		image = loneImage(2, byte(kind), 0, 0, 0, 0, 0, 0, 0, 0)
		if got := isZeroCode(impl.Decode(image)); got != (kind != impl.KFlt) {
			t.Errorf("kind %d with 8 times 0 behind it", kind)
		}
		image = loneImage(6, 2, 2, byte(kind), 2, 4)
		holdBytes(t, "kind among others", image)
	}
	for _, v := range []impl.Value{{Kind: impl.KBool, Num: 2}, {Kind: impl.KBool, Num: -1}, builtinOf(-1), builtinOf(impl.Builtins), builtinOf(mostInt), longStr(impl.MaxStr + 1)} {
		holdUnread(t, "const "+impl.Text(v), modelImage(lone(v)))
	}
}

// The places of lengths: protos, name of a proto, ups, consts, text of a const, instructions, named, name of a variable.
func lengthPlaces(t *testing.T) ([]byte, []int) {
	image := modelImage(codeOf(impl.Proto{Name: "m", Regs: 1, Consts: []impl.Value{strOf("k")}, Ins: []impl.Ins{do(impl.IJump, 0)}, Named: []impl.Named{{Name: "v"}}}))
	want := []byte{72, 67, 1, 2, 2, 'm', 0, 0, 0, 2, 0, 2, 4, 2, 'k', 2, 38, 0, 0, 0, 0, 2, 2, 'v', 0, 0, 0}
	if !slices.Equal(image, want) || isZeroCode(impl.Decode(want)) {
		t.Fatal(image)
	}
	return want, []int{3, 4, 10, 11, 13, 15, 21, 22}
}

func TestOtherLengths(t *testing.T) {
	image, places := lengthPlaces(t)
	for _, at := range places {
		left := len(image) - at - 1
		for _, n := range []int{-1, -2, -64, -65, left, left + 1, left + 2, 2, 3, 100, 1000, 1 << 20, 1 << 31, 1 << 32, 1 << 40, 1 << 60, mostInt, mostInt - 1, leastInt, leastInt + 1} {
			holdUnread(t, "a length", slices.Replace(slices.Clone(image), at, at+1, modelInt(n)...))
		}
		if image[at] != 0 {
			holdUnread(t, "no length", slices.Replace(slices.Clone(image), at, at+1, 0))
		}
	}
}

// Lengths that are far too great must not cost the room that they tell of.
func TestGreatLengthsAreRefusedAtOnce(t *testing.T) {
	image, places := lengthPlaces(t)
	for range 2000 {
		for _, at := range places {
			for _, n := range []int{1 << 30, 1 << 45, mostInt} {
				holdUnread(t, "a great length", joined(image[:at], modelInt(n), image[at+1:]))
			}
		}
	}
}

func TestNoNumberAsAFloat(t *testing.T) {
	for _, c := range []struct {
		bytes []byte
		ok    bool
	}{
		{[]byte{127, 240, 0, 0, 0, 0, 0, 0}, true},
		{[]byte{127, 240, 0, 0, 0, 0, 0, 1}, false},
		{[]byte{127, 248, 0, 0, 0, 0, 0, 0}, false},
		{[]byte{127, 248, 0, 0, 0, 0, 0, 1}, false},
		{[]byte{127, 255, 255, 255, 255, 255, 255, 255}, false},
		{[]byte{127, 239, 255, 255, 255, 255, 255, 255}, true},
		{[]byte{255, 240, 0, 0, 0, 0, 0, 0}, true},
		{[]byte{255, 240, 0, 0, 0, 0, 0, 1}, false},
		{[]byte{255, 248, 0, 0, 0, 0, 0, 0}, false},
		{[]byte{255, 255, 255, 255, 255, 255, 255, 255}, false},
		{[]byte{255, 239, 255, 255, 255, 255, 255, 255}, true},
	} {
		got := impl.Decode(loneImage(joined([]byte{2, 3}, c.bytes)...))
		if isZeroCode(got) == c.ok {
			t.Errorf("%v: %v", c.bytes, got)
		}
	}
	holdNothing(t, "a NaN", lone(fltOf(nan)))
}

// A zero with a sign in a const that is no float has no room in an image.
func TestSignsWithoutAFloat(t *testing.T) {
	for _, v := range []impl.Value{nilValue(), boolOf(true), intOf(0), strOf("k"), builtinOf(2)} {
		v.Flt = minusZero
		holdNothing(t, impl.Text(v), lone(v))
	}
}

func TestListingIsOfTheCodeAlone(t *testing.T) {
	c := soundCode()
	want := impl.Listing(c)
	if want != modelListing(c) || strings.Count(want, "\n") != 4*7 {
		t.Fatalf("%q", want)
	}
	for p := range c.Protos {
		c.Protos[p].Name, c.Protos[p].Line, c.Protos[p].Named = "other", 9, nil
		c.Protos[p].Consts = append(c.Protos[p].Consts, strOf("more"))
	}
	if got := impl.Listing(c); got != want {
		t.Errorf("%q", got)
	}
}
