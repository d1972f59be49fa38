package tests

import (
	"bytes"
	"slices"
	"testing"

	"loop.example/punch/impl"
)

// joined is one image out of pieces.
func joined(pieces ...[]byte) []byte { return slices.Concat(pieces...) }

// sameCodes holds two codes against each other field by field, floats by their bits; an empty list is as good as none.
func sameCodes(a, b impl.Code) bool { return slices.EqualFunc(a.Protos, b.Protos, sameProtos) }

func sameProtos(a, b impl.Proto) bool {
	return a.Name == b.Name && a.Line == b.Line && a.Params == b.Params && a.Rest == b.Rest && a.Regs == b.Regs &&
		slices.Equal(a.Ups, b.Ups) && slices.EqualFunc(a.Consts, b.Consts, alike) && slices.Equal(a.Ins, b.Ins) && slices.Equal(a.Named, b.Named)
}

// holdImage asks that a code has this image, and that it is read back from it.
func holdImage(t *testing.T, name string, c impl.Code, want []byte) {
	t.Helper()
	if fault := impl.CheckShape(c); fault != (impl.Fault{}) {
		t.Fatalf("%s: shape %v", name, fault)
	}
	if got := impl.Encode(c); !bytes.Equal(got, want) {
		t.Errorf("%s: image\n%v, want\n%v", name, shortBytes(got), shortBytes(want))
	}
	if got := impl.Decode(want); !sameCodes(got, c) {
		t.Errorf("%s: read back as %v", name, shortCode(got))
	}
}

// holdUnread asks that bytes are no image.
func holdUnread(t *testing.T, name string, b []byte) {
	t.Helper()
	if got := impl.Decode(b); !isZeroCode(got) {
		t.Errorf("%s: %v is read as %v", name, shortBytes(b), shortCode(got))
	}
}

func isZeroCode(c impl.Code) bool { return len(c.Protos) == 0 }

// holdNothing asks that a code has neither an image nor a listing.
func holdNothing(t *testing.T, name string, c impl.Code) {
	t.Helper()
	if got := impl.Encode(c); len(got) != 0 {
		t.Errorf("%s: image %v", name, shortBytes(got))
	}
	if got := impl.Listing(c); got != "" {
		t.Errorf("%s: listing %.80q", name, got)
	}
}

func shortBytes(b []byte) []byte { return b[:min(len(b), 400)] }

func shortCode(c impl.Code) impl.Code { return impl.Code{Protos: c.Protos[:min(len(c.Protos), 3)]} }
