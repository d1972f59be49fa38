package tests

import (
	"bytes"
	"math"
	"math/big"
	"strconv"
	"strings"
	"testing"

	"loop.example/punch/impl"
)

// modelNumber writes a number of any size, so that those of more than 64 bits can be had, too.
func modelNumber(n *big.Int) []byte {
	u := new(big.Int).Lsh(n, 1)
	if n.Sign() < 0 {
		u.Neg(u).Sub(u, big.NewInt(1))
	}
	var out []byte
	for {
		rest := new(big.Int)
		u.DivMod(u, big.NewInt(128), rest)
		if u.Sign() == 0 {
			return append(out, byte(rest.Int64()))
		}
		out = append(out, byte(rest.Int64()+128))
	}
}

func modelInt(n int) []byte { return modelNumber(big.NewInt(int64(n))) }

func modelInts(all ...int) []byte {
	var out []byte
	for _, n := range all {
		out = append(out, modelInt(n)...)
	}
	return out
}

func modelText(s string) []byte { return joined(modelInt(len(s)), []byte(s)) }

func modelFlag(b bool) []byte {
	if b {
		return []byte{1}
	}
	return []byte{0}
}

// modelConst writes values that are no consts, too.
func modelConst(v impl.Value) []byte {
	kind := []byte{byte(v.Kind)}
	switch v.Kind {
	case impl.KBool, impl.KInt, impl.KBuiltin:
		return joined(kind, modelNumber(big.NewInt(v.Num)))
	case impl.KStr:
		return joined(kind, modelText(v.Str))
	case impl.KFlt:
		bits := new(big.Int).SetUint64(math.Float64bits(v.Flt))
		return joined(kind, bits.FillBytes(make([]byte, 8)))
	}
	return kind
}

func modelProtoImage(p impl.Proto) []byte {
	out := joined(modelText(p.Name), modelInts(p.Line, p.Params), modelFlag(p.Rest), modelInt(p.Regs), modelInt(len(p.Ups)))
	for _, u := range p.Ups {
		out = append(out, joined(modelFlag(u.Local), modelInt(u.Index))...)
	}
	out = append(out, modelInt(len(p.Consts))...)
	for _, v := range p.Consts {
		out = append(out, modelConst(v)...)
	}
	out = append(out, modelInt(len(p.Ins))...)
	for _, i := range p.Ins {
		out = append(out, modelInts(i.Op, i.A, i.B, i.C, i.D)...)
	}
	out = append(out, modelInt(len(p.Named))...)
	for _, n := range p.Named {
		out = append(out, joined(modelText(n.Name), modelInts(n.Reg, n.From, n.To))...)
	}
	return out
}

// modelImage writes any code, of the right shape or not and of any size.
func modelImage(c impl.Code) []byte {
	out := joined([]byte{72, 67, 1}, modelInt(len(c.Protos)))
	for _, p := range c.Protos {
		out = append(out, modelProtoImage(p)...)
	}
	return out
}

// modelReader looks at each rule where it comes up, and is bad from the first that is broken on.
type modelReader struct {
	left []byte
	bad  bool
}

func (r *modelReader) byte(most byte) byte {
	if len(r.left) == 0 || r.left[0] > most {
		r.bad = true
		return 0
	}
	b := r.left[0]
	r.left = r.left[1:]
	return b
}

func (r *modelReader) number() int64 {
	u := new(big.Int)
	for group := 0; ; group++ {
		b := r.byte(255)
		u.Add(u, new(big.Int).Lsh(big.NewInt(int64(b&127)), uint(7*group)))
		if b == 0 && group > 0 || u.BitLen() > 64 {
			r.bad = true
		}
		if b < 128 || r.bad {
			break
		}
	}
	if r.bad {
		return 0
	}
	n := new(big.Int).Rsh(u, 1)
	if u.Bit(0) == 1 {
		n.Neg(n).Sub(n, big.NewInt(1))
	}
	return n.Int64()
}

func (r *modelReader) int() int { return int(r.number()) }

func (r *modelReader) length() int {
	n := r.int()
	if n < 0 || n > len(r.left) {
		r.bad = true
		return 0
	}
	return n
}

func (r *modelReader) text() string {
	n := r.length()
	s := string(r.left[:n])
	r.left = r.left[n:]
	return s
}

func (r *modelReader) constant() impl.Value {
	v := impl.Value{Kind: int(r.byte(impl.KBuiltin))}
	switch v.Kind {
	case impl.KBool, impl.KInt, impl.KBuiltin:
		v.Num = r.number()
	case impl.KStr:
		v.Str = r.text()
	case impl.KFlt:
		var bits [8]byte
		for i := range bits {
			bits[i] = r.byte(255)
		}
		v.Flt = math.Float64frombits(new(big.Int).SetBytes(bits[:]).Uint64())
	}
	return v
}

func (r *modelReader) proto() impl.Proto {
	p := impl.Proto{Name: r.text(), Line: r.int(), Params: r.int(), Rest: r.byte(1) == 1, Regs: r.int()}
	for n := r.length(); n > 0 && !r.bad; n-- {
		p.Ups = append(p.Ups, impl.Up{Local: r.byte(1) == 1, Index: r.int()})
	}
	for n := r.length(); n > 0 && !r.bad; n-- {
		p.Consts = append(p.Consts, r.constant())
	}
	for n := r.length(); n > 0 && !r.bad; n-- {
		p.Ins = append(p.Ins, impl.Ins{Op: r.int(), A: r.int(), B: r.int(), C: r.int(), D: r.int()})
	}
	for n := r.length(); n > 0 && !r.bad; n-- {
		p.Named = append(p.Named, impl.Named{Name: r.text(), Reg: r.int(), From: r.int(), To: r.int()})
	}
	return p
}

// modelDecode is the zero value for bytes that are no image.
func modelDecode(b []byte) impl.Code {
	rest, marked := bytes.CutPrefix(b, []byte{72, 67, 1})
	r := modelReader{left: rest, bad: !marked || len(b) > 1000000}
	var c impl.Code
	for n := r.length(); n > 0 && !r.bad; n-- {
		c.Protos = append(c.Protos, r.proto())
	}
	if r.bad || len(r.left) > 0 || impl.CheckShape(c) != (impl.Fault{}) {
		return impl.Code{}
	}
	return c
}

func modelNames() []string {
	return strings.Split("- line at tick const move box get put upget upput fn table raw rawall index set unary binary jump if unless list add join first pick copy call return throw try endtry scope keep defer leave for fortest fornext each eachnext drop", " ")
}

func modelListing(c impl.Code) string {
	var lines []string
	for p, proto := range c.Protos {
		for i, ins := range proto.Ins {
			words := []string{strconv.Itoa(p) + ":" + strconv.Itoa(i), modelNames()[ins.Op]}
			for _, x := range []int{ins.A, ins.B, ins.C, ins.D} {
				words = append(words, strconv.Itoa(x))
			}
			lines = append(lines, strings.Join(words, " ")+"\n")
		}
	}
	return strings.Join(lines, "")
}

// holdAll asks for the image and the listing of a code that the model writes, or for none of both.
func holdAll(t *testing.T, name string, c impl.Code) {
	t.Helper()
	image := modelImage(c)
	if impl.CheckShape(c) != (impl.Fault{}) {
		holdNothing(t, name, c)
		// What is wrong may be in a field that has no room in an image.
		holdBytes(t, name, image)
		return
	}
	if got := impl.Listing(c); got != modelListing(c) {
		t.Errorf("%s: listing %.200q", name, got)
	}
	if len(image) > 1000000 {
		if got := impl.Encode(c); len(got) != 0 {
			t.Errorf("%s: an image of %d bytes, where it is too long", name, len(got))
		}
		holdUnread(t, name, image)
		return
	}
	holdImage(t, name, c, image)
}

// holdBytes asks that any bytes are read as the model reads them, and that what is read is written just so.
func holdBytes(t *testing.T, name string, b []byte) bool {
	t.Helper()
	got := impl.Decode(b)
	if !sameCodes(got, modelDecode(b)) {
		t.Fatalf("%s: %v\nis read as %v, want %v", name, shortBytes(b), shortCode(got), shortCode(modelDecode(b)))
	}
	if !isZeroCode(got) && !bytes.Equal(impl.Encode(got), b) {
		t.Fatalf("%s: %v\nis not what is written: %v", name, shortBytes(b), shortBytes(impl.Encode(got)))
	}
	return !isZeroCode(got)
}
