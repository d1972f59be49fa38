package tests

import (
	"slices"
	"testing"

	"loop.example/punch/impl"
)

// dress gives a code names, lines and consts of all kinds.
func (w *weaver) dress(c *impl.Code) {
	values := goodValues()
	for p := range c.Protos {
		proto := &c.Protos[p]
		if w.chance(50) {
			proto.Name = string(slices.Repeat([]byte{byte(w.pick(256))}, w.pick(impl.MaxName+1)))
			proto.Line = w.number(span{0, impl.MaxLine})
		}
		for range w.pick(4) {
			proto.Consts = append(proto.Consts, values[w.pick(len(values))])
		}
		for range w.pick(3) {
			proto.Named = append(proto.Named, impl.Named{Name: "name"[:1+w.pick(4)], Reg: w.pick(max(1, proto.Regs)), To: w.pick(len(proto.Ins) + 1)})
		}
	}
}

// Codes that were woven by chance, of the right shape or not, sound or not.
func TestImagesOfWovenCodes(t *testing.T) {
	w := newWeaver(3)
	right, wrong, sound := 0, 0, 0
	for range 8000 {
		c := w.next()
		isSound := impl.CheckCode(c) == (impl.Fault{})
		if isSound {
			w.keep(c)
			sound++
		}
		c = copyCode(c)
		w.dress(&c)
		holdAll(t, "woven", c)
		if impl.CheckShape(c) == (impl.Fault{}) {
			right++
		} else {
			wrong++
		}
		if t.Failed() {
			t.Fatalf("%v", c)
		}
	}
	if right < 1000 || wrong < 1000 || sound < 1000 || sound == right {
		t.Errorf("%d of the right shape, %d of another, %d sound", right, wrong, sound)
	}
}

// spoilBytes changes an image at a few places.
func (w *weaver) spoilBytes(b []byte) []byte {
	b = slices.Clone(b)
	for range 1 + w.pick(2) {
		if len(b) == 0 {
			return b
		}
		at := w.pick(len(b))
		switch w.pick(6) {
		case 0:
			b[at] = byte(w.pick(256))
		case 1:
			b[at] ^= 1 << w.pick(8)
		case 2:
			b = slices.Delete(b, at, min(len(b), at+1+w.pick(3)))
		case 3:
			b = slices.Insert(b, at, byte(w.pick(256)))
		case 4:
			b = slices.Replace(b, at, at+1, b[at]|128, 0)
		case 5:
			b[at] = byte(w.pick(9))
		}
	}
	return b
}

func TestSpoiltImages(t *testing.T) {
	w := newWeaver(4)
	read, unread := 0, 0
	for range 30000 {
		c := w.next()
		if impl.CheckShape(c) != (impl.Fault{}) {
			continue
		}
		w.keep(c)
		if holdBytes(t, "spoilt", w.spoilBytes(modelImage(c))) {
			read++
		} else {
			unread++
		}
	}
	if read < 500 || unread < 5000 {
		t.Errorf("%d images were read, %d were not", read, unread)
	}
}

// Bytes by chance behind a right beginning.
func TestBytesByChance(t *testing.T) {
	w := newWeaver(5)
	beginning := fullImage()
	for range 20000 {
		b := slices.Clone(beginning[:w.pick(len(beginning))])
		for range w.pick(40) {
			b = append(b, byte(w.pick(1+w.pick(256))))
		}
		holdBytes(t, "by chance", b)
	}
}
