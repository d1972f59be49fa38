package tests

import (
	"reflect"
	"slices"
	"testing"

	"loop.example/punch/impl"
)

// roomyList is a list with room behind it, filled with something, where a careless append would write.
func roomyList[T any](list []T, room T) []T {
	all := append(slices.Clone(list), slices.Repeat([]T{room}, 8)...)
	return all[:len(list)]
}

func roomyCode(c impl.Code) impl.Code {
	c = copyCode(c)
	for p := range c.Protos {
		proto := &c.Protos[p]
		proto.Ups = roomyList(proto.Ups, impl.Up{Index: -7})
		proto.Consts = roomyList(proto.Consts, strOf("room"))
		proto.Ins = roomyList(proto.Ins, impl.Ins{Op: -7})
		proto.Named = roomyList(proto.Named, impl.Named{Name: "room"})
	}
	return impl.Code{Protos: roomyList(c.Protos, impl.Proto{Name: "room"})}
}

// laidOpen is a code with all that stands in the room behind its lists.
func laidOpen(c impl.Code) impl.Code {
	c = impl.Code{Protos: slices.Clone(c.Protos[:cap(c.Protos)])}
	for p := range c.Protos {
		proto := &c.Protos[p]
		proto.Ups = slices.Clone(proto.Ups[:cap(proto.Ups)])
		proto.Consts = slices.Clone(proto.Consts[:cap(proto.Consts)])
		proto.Ins = slices.Clone(proto.Ins[:cap(proto.Ins)])
		proto.Named = slices.Clone(proto.Named[:cap(proto.Named)])
	}
	return c
}

// memoryCodes are sound codes and some with a fault of each code.
func memoryCodes() []impl.Code {
	codes := []impl.Code{{}, soundCode(), withEnding(3, do(impl.IMove, 0, 1)), withEnding(3, do(impl.IEndTry)), textOf(3, do(impl.IJump, 0))}
	for _, sheets := range writtenSheets() {
		codes = append(codes, codeOfSheets(sheets))
	}
	codes = append(codes,
		textOf(6, trying(2, do(impl.IDrop, 1))...),
		textOf(6, ended(do(impl.IDrop, 0), do(impl.IJump, 5))...))
	for _, s := range orderSpoils() {
		c := soundCode()
		s.spoil(&c)
		codes = append(codes, c)
	}
	return codes
}

func TestNothingIsWrittenIntoACode(t *testing.T) {
	for _, c := range memoryCodes() {
		given := roomyCode(c)
		asItWas := laidOpen(given)
		impl.CheckShape(given)
		impl.CheckCode(given)
		for p := -1; p <= len(c.Protos); p++ {
			impl.States(given, p)
		}
		if !reflect.DeepEqual(laidOpen(given), asItWas) {
			t.Errorf("%v was written into", c)
		}
	}
}

func copyStates(states []impl.State) []impl.State {
	states = slices.Clone(states)
	for i := range states {
		states[i].Types = slices.Clone(states[i].Types)
		states[i].Guards = slices.Clone(states[i].Guards)
	}
	return states
}

// What is written over one list of an answer, or behind it, is not to be seen in any other, nor in the code, nor in a later answer.
func TestStatesShareNoMemory(t *testing.T) {
	for _, c := range memoryCodes() {
		for p := range c.Protos {
			given := roomyCode(c)
			asItWas := laidOpen(given)
			got := impl.States(given, p)
			want := copyStates(got)
			for i := range got {
				spoilState(&got[i])
				want[i] = copyStates(got[i : i+1])[0]
				if !reflect.DeepEqual(copyStates(got), want) {
					t.Fatalf("%v\nproto %d: the lists of state %d are shared", c, p, i)
				}
			}
			if !reflect.DeepEqual(laidOpen(given), asItWas) {
				t.Errorf("%v\nproto %d: a list of a state is the code's", c, p)
			}
			if again := impl.States(c, p); !reflect.DeepEqual(stateTexts(again), stateTexts(impl.States(given, p))) || len(again) > 0 && len(again) != len(got) {
				t.Errorf("%v\nproto %d: another answer: %q", c, p, stateTexts(again))
			}
		}
	}
}

func spoilState(s *impl.State) {
	types, guards := s.Types[:cap(s.Types)], s.Guards[:cap(s.Guards)]
	for i := range types {
		types[i] = 7
	}
	for i := range guards {
		guards[i] = impl.Guard{Keep: -7}
	}
}

// What is written into a code behind an answer is not to be seen in it.
func TestStatesKeepNothingOfTheCode(t *testing.T) {
	for name, sheets := range writtenSheets() {
		c := codeOfSheets(sheets)
		for p := range c.Protos {
			given := copyCode(c)
			got := impl.States(given, p)
			want := copyStates(got)
			for q := range given.Protos {
				clear(given.Protos[q].Ins)
				clear(given.Protos[q].Ups)
				clear(given.Protos[q].Consts)
			}
			clear(given.Protos)
			if !reflect.DeepEqual(got, want) {
				t.Errorf("%s: proto %d: the states hang on the code", name, p)
			}
		}
	}
}
