package tests

import (
	"bytes"
	"reflect"
	"slices"
	"testing"

	"loop.example/punch/impl"
)

// imageCodes are codes with and without an image.
func imageCodes() []impl.Code { return append(memoryCodes(), fullCode(), lone(strOf("k"), fltOf(1))) }

func TestImagesWriteNothingIntoACode(t *testing.T) {
	for _, c := range imageCodes() {
		given := roomyCode(c)
		asItWas := laidOpen(given)
		impl.Encode(given)
		impl.Listing(given)
		if !reflect.DeepEqual(laidOpen(given), asItWas) {
			t.Errorf("%v was written into", shortCode(c))
		}
	}
}

// What is written over an image is not to be seen in the code, nor in a later image.
func TestImagesShareNoMemory(t *testing.T) {
	for _, c := range imageCodes() {
		given := roomyCode(c)
		asItWas := laidOpen(given)
		image := impl.Encode(given)
		want := slices.Clone(image)
		clear(image[:cap(image)])
		if !reflect.DeepEqual(laidOpen(given), asItWas) {
			t.Errorf("%v: the image is the code's", shortCode(c))
		}
		if again := impl.Encode(given); !bytes.Equal(again, want) {
			t.Errorf("%v: another image", shortCode(c))
		}
	}
}

// memoryImages are images and bytes that are none, each with room behind it.
func memoryImages() [][]byte {
	var all [][]byte
	for _, image := range smallImages() {
		all = append(all, roomyList(image, 99), roomyList(image[:len(image)-1], 99), roomyList(image[:len(image)/2], 99), roomyList(joined(image, []byte{0}), 99))
	}
	return append(all, nil)
}

func TestDecodeWritesNothingIntoAnImage(t *testing.T) {
	for _, image := range memoryImages() {
		asItWas := slices.Clone(image[:cap(image)])
		impl.Decode(image)
		if !bytes.Equal(image[:cap(image)], asItWas) {
			t.Errorf("%v was written into", asItWas)
		}
	}
}

// What is written over an image behind Decode is not to be seen in the code.
func TestDecodeKeepsNothingOfTheImage(t *testing.T) {
	for _, image := range memoryImages() {
		image = slices.Clone(image)
		want := modelDecode(image)
		got := impl.Decode(image)
		for i := range image {
			image[i] = 'Z'
		}
		if !sameCodes(got, want) {
			t.Errorf("%v hangs on the image", got)
		}
	}
}

// What is written over one list of a code, or behind it, is not to be seen in another, nor in the image, nor in a later answer.
func TestListsOfADecodedCodeShareNoMemory(t *testing.T) {
	for _, image := range memoryImages() {
		want := modelDecode(image)
		asItWas := slices.Clone(image)
		got := impl.Decode(image)
		for p := range got.Protos {
			for _, spoil := range listSpoils() {
				spoil(&got.Protos[p])
				spoil(&want.Protos[p])
				if !sameCodes(got, want) {
					t.Fatalf("%v: lists are shared", shortCode(got))
				}
			}
		}
		if !bytes.Equal(image, asItWas) {
			t.Errorf("%v was written into", asItWas)
		}
		if again := impl.Decode(image); !sameCodes(again, modelDecode(image)) {
			t.Errorf("another answer: %v", shortCode(again))
		}
	}
}

// overwritten fills a list and the room behind it.
func overwritten[T any](list []T, with T) {
	all := list[:cap(list)]
	for i := range all {
		all[i] = with
	}
}

func listSpoils() []func(p *impl.Proto) {
	return []func(p *impl.Proto){
		func(p *impl.Proto) { overwritten(p.Ups, impl.Up{Index: -7}) },
		func(p *impl.Proto) { overwritten(p.Consts, strOf("over")) },
		func(p *impl.Proto) { overwritten(p.Ins, impl.Ins{Op: -7}) },
		func(p *impl.Proto) { overwritten(p.Named, impl.Named{Name: "over"}) },
	}
}
