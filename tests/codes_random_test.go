package tests

import (
	"math/rand"
	"slices"
	"strings"
	"testing"

	"loop.example/punch/impl"
)

// weaver makes codes by small changes of codes that are sound, so that many of them are sound or nearly so.
type weaver struct {
	dice  *rand.Rand
	seeds []impl.Code
	pool  []impl.Code
}

func (w *weaver) pick(n int) int { return w.dice.Intn(n) }

func (w *weaver) chance(percent int) bool { return w.pick(100) < percent }

// fill makes an instruction that mostly suits the state that is there, if it is known.
func (w *weaver) fill(c impl.Code, p, at, op int) impl.Ins {
	ins := impl.Ins{Op: op}
	states := impl.States(c, p)
	for j, field := range []*int{&ins.A, &ins.B, &ins.C, &ins.D} {
		form := formOf(op)[j]
		*field = w.number(modelSpan(form, c, c.Protos[p]))
		if at >= len(states) || w.chance(10) {
			continue
		}
		w.suit(field, form, states, at)
	}
	return ins
}

// suit looks for a register with the types that a field asks for, or for an instruction with the state that is here.
func (w *weaver) suit(field *int, form byte, states []impl.State, at int) {
	wants := map[byte]string{'v': "v", 't': "l", '1': "v", '2': "b", '3': "l", 'V': "v", 'B': "b", 'T': "l", 'F': "vvv", 'E': "v.", 'N': "vv"}
	want, isRegister := wants[form]
	here := stateText(states[at])
	for range 20 {
		reg, to := w.pick(len(states[at].Types)+1), w.pick(len(states))
		if isRegister && strings.HasPrefix(here[min(reg, len(here)):], want) {
			*field = reg
		}
		if form == 'i' && stateText(states[to]) == here {
			*field = to
		}
	}
	if (form == 'v' || form == 't') && w.chance(15) {
		*field = -1 - *field
	}
}

// number is mostly in the span, small where that is wide.
func (w *weaver) number(s span) int {
	if w.chance(2) {
		return []int{s.least - 1, s.most + 1, leastInt, mostInt, s.most}[w.pick(5)]
	}
	// A spoilt proto may have so many registers that their number wraps.
	if size := s.most - s.least + 1; size > 0 {
		return s.least + w.pick(min(size, 30))
	}
	return s.least
}

// shift moves the instructions that others name, when one comes or goes at a place.
func shift(p *impl.Proto, at, by int) {
	for i := range p.Ins {
		if p.Ins[i].Op < 1 || p.Ins[i].Op > impl.ILast {
			continue
		}
		for j, field := range []*int{&p.Ins[i].A, &p.Ins[i].B, &p.Ins[i].C, &p.Ins[i].D} {
			if formOf(p.Ins[i].Op)[j] == 'i' && *field >= at && *field < len(p.Ins) {
				*field = max(0, *field+by)
			}
		}
	}
}

func (w *weaver) change(c *impl.Code) {
	number := w.pick(len(c.Protos))
	p := &c.Protos[number]
	at := w.pick(len(p.Ins) + 1)
	ins := w.fill(*c, number, at, 1+w.pick(impl.ILast))
	switch kind := w.pick(100); {
	case kind < 10:
		w.addGuard(p)
	case kind < 50:
		p.Ins = slices.Insert(p.Ins, at, ins)
		if w.chance(90) {
			shift(p, at+1, 1)
		}
	case kind < 60 && at < len(p.Ins):
		p.Ins[at] = ins
	case kind < 70 && at < len(p.Ins):
		p.Ins = slices.Delete(p.Ins, at, at+1)
		shift(p, at, -1)
	case kind < 85 && at < len(p.Ins) && p.Ins[at].Op >= 1 && p.Ins[at].Op <= impl.ILast:
		j := w.pick(4)
		field := []*int{&p.Ins[at].A, &p.Ins[at].B, &p.Ins[at].C, &p.Ins[at].D}[j]
		*field = w.number(modelSpan(formOf(p.Ins[at].Op)[j], *c, *p))
	case kind < 92:
		w.addFn(c)
	default:
		w.changeHead(p)
	}
}

// addFn puts a proto last and has a fn of it made in one of the others.
func (w *weaver) addFn(c *impl.Code) {
	fn := plainFn()
	fn.Regs = 1 + w.pick(5)
	fn.Params = w.pick(fn.Regs + 1)
	fn.Rest = w.chance(30)
	fn.Ins = ending(fn.Regs)
	for range w.pick(3) {
		fn.Ups = append(fn.Ups, impl.Up{Local: w.chance(60), Index: w.pick(5)})
	}
	c.Protos = append(c.Protos, fn)
	p := &c.Protos[w.pick(len(c.Protos))]
	at := w.pick(len(p.Ins) + 1)
	p.Ins = slices.Insert(p.Ins, at, do(impl.IFn, w.pick(max(1, p.Regs)), len(c.Protos)-1))
	shift(p, at+1, 1)
}

// addGuard puts a guard around some of the instructions.
func (w *weaver) addGuard(p *impl.Proto) {
	from := w.pick(len(p.Ins) + 1)
	to := from + w.pick(len(p.Ins)-from+1)
	keep := w.number(span{0, p.Regs - 2})
	on, off := do(impl.IScope, keep), do(impl.ILeave)
	if w.chance(50) {
		on, off = do(impl.ITry, len(p.Ins)+2, keep), do(impl.IEndTry)
	}
	p.Ins = slices.Insert(p.Ins, to, off)
	shift(p, to+1, 1)
	p.Ins = slices.Insert(p.Ins, from, on)
	shift(p, from+1, 1)
	if on.Op == impl.ITry {
		p.Ins[from].A = len(p.Ins)
		p.Ins = append(p.Ins, do(impl.IThrow, keep))
	}
}

func (w *weaver) changeHead(p *impl.Proto) {
	switch w.pick(9) {
	case 0, 1, 2:
		p.Regs = w.number(span{1, 8})
	case 3:
		p.Params = w.number(span{0, max(0, p.Regs)})
	case 4:
		p.Rest = !p.Rest
	case 5:
		p.Line = w.number(span{0, impl.MaxLine})
	case 6:
		values := append(goodValues(), badValues()...)
		p.Consts = append(p.Consts, values[w.pick(len(values))])
	case 7:
		p.Named = append(p.Named, impl.Named{Name: "n", Reg: w.number(span{0, p.Regs - 1}), From: w.number(span{0, 3}), To: w.number(span{0, len(p.Ins)})})
	case 8:
		p.Ups = append(p.Ups, impl.Up{Local: w.chance(50), Index: w.pick(4)})
	}
}

// next is a code that was changed.
func (w *weaver) next() impl.Code {
	c := w.seeds[w.pick(len(w.seeds))]
	if len(w.pool) > 0 && w.chance(70) {
		c = w.pool[w.pick(len(w.pool))]
	}
	for range 1 + w.pick(3) {
		c = copyCode(c)
		w.change(&c)
	}
	return c
}

// keep takes a sound code into the pool, in the end for another one.
func (w *weaver) keep(c impl.Code) {
	size := 0
	for _, p := range c.Protos {
		size += len(p.Ins)
	}
	switch {
	case size > 60:
	case len(w.pool) < 400:
		w.pool = append(w.pool, c)
	default:
		w.pool[w.pick(len(w.pool))] = c
	}
}

func newWeaver(seed int64) *weaver {
	w := &weaver{dice: rand.New(rand.NewSource(seed))}
	for _, sheets := range [][]sheet{straightSheet(), forkSheet(), fnSheet(), loopSheet(), eachSheet(), guardSheet(), handlerSheet()} {
		w.seeds = append(w.seeds, codeOfSheets(sheets))
	}
	w.seeds = append(w.seeds, withEnding(3), soundCode())
	return w
}

// Codes that were woven by chance are held against the model: faults, and the states of those without one.
func TestCodesAgainstTheModel(t *testing.T) {
	w := newWeaver(1)
	var faults [15]int
	var used [impl.ILast + 1]int
	for range 60000 {
		c := w.next()
		shape := modelShape(c)
		states, fault := modelCode(c)
		if got := impl.CheckShape(c); got != shape {
			t.Fatalf("%v\nCheckShape %v, want %v", c, got, shape)
		}
		if got := impl.CheckCode(c); got != fault {
			t.Fatalf("%v\nCheckCode %v, want %v", c, got, fault)
		}
		faults[fault.Code]++
		if fault != (impl.Fault{}) {
			continue
		}
		for p := range c.Protos {
			if got := stateTexts(impl.States(c, p)); !slices.Equal(got, states[p]) {
				t.Fatalf("%v\nstates of proto %d:\n%q, want\n%q", c, p, got, states[p])
			}
			for i, ins := range c.Protos[p].Ins {
				if states[p][i] != "-" {
					used[ins.Op]++
				}
			}
		}
		w.keep(c)
	}
	for code, n := range faults {
		if n < 50 && code != 1 && code != 8 && code != 9 {
			t.Errorf("fault %d came only %d times", code, n)
		}
	}
	for op := 1; op <= impl.ILast; op++ {
		if used[op] < 500 {
			t.Errorf("instruction %d was reached only %d times", op, used[op])
		}
	}
}

// In a sound code every way from instruction to instruction finds the states that were told, and has a tick in each round.
func TestWaysThroughSoundCodes(t *testing.T) {
	w := newWeaver(2)
	sound := 0
	for range 20000 {
		c := w.next()
		if impl.CheckCode(c) != (impl.Fault{}) {
			continue
		}
		w.keep(c)
		sound++
		for p := range c.Protos {
			w.wander(t, c, p)
		}
	}
	if sound < 2000 {
		t.Errorf("only %d codes were sound", sound)
	}
}

// wander goes one way by chance, with the model's steps.
func (w *weaver) wander(t *testing.T, c impl.Code, p int) {
	t.Helper()
	ins, states := c.Protos[p].Ins, impl.States(c, p)
	here := modelState{types: modelStart(c.Protos[p])}
	at, silent := 0, 0
	for range 200 {
		if got := stateText(states[at]); got != here.text() || len(states[at].Guards) > impl.MaxGuards {
			t.Fatalf("%v\nproto %d, ahead of %d: %q, but a way comes with %q", c, p, at, got, here.text())
		}
		read, _, readOk := modelRead(c, ins[at], here.types)
		guards, guardsOk := modelGuards(ins[at], here.guards)
		if !readOk || !guardsOk {
			t.Fatalf("%v\nproto %d: %d can't be done", c, p, at)
		}
		ways := modelWays(ins[at], at, here, modelState{modelPut(ins[at], read), guards})
		if len(ways) == 0 {
			return
		}
		way := ways[w.pick(len(ways))]
		if silent++; !modelSilent(ins[at], at, way.to) {
			silent = 0
		}
		if silent > len(ins) {
			t.Fatalf("%v\nproto %d goes round without a tick at %d", c, p, at)
		}
		at, here = way.to, way.state
	}
}
