package tests

import (
	"slices"
	"strings"
	"testing"

	"loop.example/punch/impl"
)

// sized is a code of the right shape whose image has n bytes.
func sized(t *testing.T, n int) impl.Code {
	t.Helper()
	c := lone(slices.Repeat([]impl.Value{longStr(impl.MaxStr)}, n/(impl.MaxStr+3)-1)...)
	last := strOf("")
	c.Protos[0].Consts = append(c.Protos[0].Consts, last)
	for range 3 {
		missing := n - len(modelImage(c))
		i := len(c.Protos[0].Consts) - 1
		if length := len(c.Protos[0].Consts[i].Str) + missing; length > impl.MaxStr {
			c.Protos[0].Consts[i] = longStr(impl.MaxStr)
			c.Protos[0].Consts = append(c.Protos[0].Consts, strOf(""))
		} else {
			c.Protos[0].Consts[i] = longStr(max(0, length))
		}
	}
	if got := len(modelImage(c)); got != n || impl.CheckShape(c) != (impl.Fault{}) {
		t.Fatalf("%d bytes, want %d; %v", got, n, impl.CheckShape(c))
	}
	return c
}

func TestImagesOfMaxImage(t *testing.T) {
	if impl.MaxImage != 1000000 {
		t.Fatal(impl.MaxImage)
	}
	for _, more := range []int{-1000, -130, -129, -2, -1, 0, 1, 2, 3, 10, 100, 4003, 500000} {
		c := sized(t, 1000000+more)
		image := impl.Encode(c)
		if more > 0 {
			if len(image) != 0 {
				t.Errorf("%d more than MaxImage: %d bytes", more, len(image))
			}
			holdUnread(t, "more than MaxImage", modelImage(c))
		} else if len(image) != 1000000+more {
			t.Errorf("%d from MaxImage: %d bytes", more, len(image))
		}
		holdAll(t, "near MaxImage", c)
	}
	holdUnread(t, "MaxImage and a byte", append(modelImage(sized(t, 1000000)), 0))
	holdUnread(t, "MaxImage of zeros", make([]byte, 1000000))
	holdUnread(t, "more zeros", make([]byte, 1000001))
}

// What passes the limit may be any part of an image, not its end alone.
func TestPartsThatPassMaxImage(t *testing.T) {
	parts := map[string]func(p *impl.Proto){
		"a name":          func(p *impl.Proto) { p.Named = []impl.Named{{Name: strings.Repeat("n", 40)}} },
		"numbers":         func(p *impl.Proto) { p.Ins = append(times(9, do(impl.ILine, 100000)), p.Ins...) },
		"a float":         func(p *impl.Proto) { p.Consts = append(p.Consts, fltOf(1)) },
		"an int":          func(p *impl.Proto) { p.Consts = append(p.Consts, intOf(leastInt)) },
		"nils":            func(p *impl.Proto) { p.Consts = append(p.Consts, make([]impl.Value, 30)...) },
		"a line":          func(p *impl.Proto) { p.Line = 100000 },
		"the proto's own": func(p *impl.Proto) { p.Name = strings.Repeat("n", 40) },
	}
	for name, change := range parts {
		c := sized(t, 1000000)
		proto := &c.Protos[0]
		proto.Regs = 1
		long := len(proto.Consts) / 2
		change(proto)
		size := len(modelImage(c))
		for want := 999998; want <= size; want++ {
			proto.Consts[long] = longStr(impl.MaxStr - (size - want))
			if got := len(impl.Encode(c)); got != want && want <= 1000000 || got != 0 && want > 1000000 {
				t.Errorf("%s: %d bytes, want %d", name, got, want)
			}
		}
	}
}

// The greatest code of all would have some 400 million bytes; that is found out early.
func TestTheGreatestCode(t *testing.T) {
	c := linked(impl.MaxProtos)
	consts := slices.Repeat([]impl.Value{longStr(impl.MaxStr)}, impl.MaxConsts)
	for p := range c.Protos {
		c.Protos[p].Consts = consts
	}
	if impl.CheckShape(c) != (impl.Fault{}) {
		t.Fatal(impl.CheckShape(c))
	}
	for range 20 {
		if got := impl.Encode(c); len(got) != 0 {
			t.Fatal(len(got))
		}
	}
	if got := impl.Listing(c); got != modelListing(c) {
		t.Errorf("%.100q", got)
	}
}

// greatShapes meet the limits of chapter 3.
func greatShapes() map[string]impl.Code {
	all := map[string]impl.Code{
		"MaxProtos": linked(impl.MaxProtos),
		"MaxIns":    textOf(1, append(times(impl.MaxIns-2, do(impl.ILine, impl.MaxLine)), ending(1)...)...),
		"MaxConsts": lone(slices.Repeat([]impl.Value{intOf(leastInt)}, impl.MaxConsts)...),
		"nils":      lone(make([]impl.Value, impl.MaxConsts)...),
		"MaxNamed":  lone(),
		"MaxUps":    linked(2),
		"MaxRegs":   linked(2),
		"long":      lone(longStr(impl.MaxStr), strOf(""), longStr(impl.MaxStr)),
	}
	named := &all["MaxNamed"].Protos[0]
	named.Name, named.Line, named.Regs, named.Rest = strings.Repeat("m", impl.MaxName), impl.MaxLine, impl.MaxRegs, true
	named.Named = slices.Repeat([]impl.Named{{Name: strings.Repeat("n", impl.MaxName), Reg: impl.MaxRegs - 1, From: 1, To: 1}}, impl.MaxConsts)
	all["MaxUps"].Protos[1].Ups = slices.Repeat([]impl.Up{{Local: true}}, impl.MaxRegs)
	fn := &all["MaxRegs"].Protos[1]
	fn.Regs, fn.Params = impl.MaxRegs, impl.MaxRegs
	fn.Ins = []impl.Ins{do(impl.IBinary, impl.MaxRegs-1, impl.OpGe, -impl.MaxRegs, impl.MaxRegs-1), do(impl.IReturn, -impl.MaxRegs)}
	return all
}

func TestImagesOfTheGreatestShapes(t *testing.T) {
	for name, c := range greatShapes() {
		if impl.CheckShape(c) != (impl.Fault{}) {
			t.Fatalf("%s: %v", name, impl.CheckShape(c))
		}
		holdAll(t, name, c)
		if got := strings.Count(impl.Listing(c), "\n"); got != insCount(c) {
			t.Errorf("%s: %d lines for %d instructions", name, got, insCount(c))
		}
	}
	past := map[string]impl.Code{
		"MaxProtos": linked(impl.MaxProtos + 1),
		"MaxIns":    textOf(1, append(times(impl.MaxIns-1, do(impl.ITick)), ending(1)...)...),
		"MaxConsts": lone(make([]impl.Value, impl.MaxConsts+1)...),
	}
	for name, c := range past {
		if impl.CheckShape(c) == (impl.Fault{}) {
			t.Fatalf("%s is not passed", name)
		}
		holdAll(t, "past "+name, c)
	}
}

func insCount(c impl.Code) int {
	n := 0
	for _, p := range c.Protos {
		n += len(p.Ins)
	}
	return n
}

// Nothing is empty or nil: the image is the same.
func TestImagesOfEmptyLists(t *testing.T) {
	c := lone()
	c.Protos[0].Ups, c.Protos[0].Consts, c.Protos[0].Named = []impl.Up{}, []impl.Value{}, []impl.Named{}
	holdImage(t, "empty lists", c, loneImage(0))
	back := impl.Decode(loneImage(0))
	if p := back.Protos[0]; len(p.Ups)+len(p.Consts)+len(p.Named) != 0 {
		t.Errorf("%v", p)
	}
}

// All good values as consts of one code.
func TestImagesOfManyConsts(t *testing.T) {
	var consts []impl.Value
	for _, v := range goodValues() {
		if v.Kind != impl.KTable && v.Kind != impl.KFn && v.Kind != impl.KTask && !isNaN(v) {
			consts = append(consts, v)
		}
	}
	holdAll(t, "many consts", lone(consts...))
	for _, v := range append(goodValues(), badValues()...) {
		holdAll(t, "const "+impl.Text(short(v)), lone(intOf(1), v, strOf("behind")))
	}
}
