package tests

import (
	"slices"
	"sort"
	"strings"

	"loop.example/punch/impl"
)

// modelForms writes each instruction of the document's table as a letter a field:
// L a line from 1 on, l a line, k a const, u an up, f a proto, i an instruction, n and m an operation with one and two, e an element, K a keep, Y that of ITry;
// V B T a place that becomes a value, a box, a list, D one that holds nothing; 1 2 3 a place with a value, a box, a list; v and t an operand, a value or a list;
// F three values, E a value and nothing, N two values.
var modelForms = strings.Split(" L l - Vk Vv Bv V2 2v Vu uv Vf V 1vv 1vt Vvv vvv Vnv Vmvv i vi vi T 3v 3t Vt V3e T3 Tvt t v iY - K K vt - F Fi Fi E NiT D", " ")

func modelFields(ins impl.Ins) []int { return []int{ins.A, ins.B, ins.C, ins.D} }

func modelSpan(form byte, c impl.Code, p impl.Proto) span {
	switch form {
	case 'L':
		return span{1, impl.MaxLine}
	case 'l':
		return span{0, impl.MaxLine}
	case 'k':
		return span{0, len(p.Consts) - 1}
	case 'u':
		return span{0, len(p.Ups) - 1}
	case 'f':
		return span{0, len(c.Protos) - 1}
	case 'i':
		return span{0, len(p.Ins) - 1}
	case 'n':
		return span{19, 22}
	case 'm':
		return span{1, 18}
	case 'e':
		return span{0, impl.MaxRegs}
	case 'K':
		return span{0, p.Regs}
	case 'v', 't':
		return span{-p.Regs, p.Regs - 1}
	case 'Y', 'E', 'N':
		return span{0, p.Regs - 2}
	case 'F':
		return span{0, p.Regs - 3}
	case '-':
		return span{0, 0}
	}
	return span{0, p.Regs - 1}
}

// formOf is the form of all four fields.
func formOf(op int) string { return (modelForms[op] + "----")[:4] }

// modelShape gathers every fault of the shape and answers the first.
func modelShape(c impl.Code) impl.Fault {
	all := 0
	for _, p := range c.Protos {
		all += len(p.Ins)
	}
	if len(c.Protos) < 1 || len(c.Protos) > 200 || all > 6000 {
		return faultOf(1, 0, 0)
	}
	var found []impl.Fault
	makers := make([]int, len(c.Protos))
	for p, proto := range c.Protos {
		found = append(found, modelProto(c, p, proto)...)
		for i, ins := range proto.Ins {
			if ins.Op != impl.IFn || ins.B < 0 || ins.B >= len(c.Protos) {
				continue
			}
			makers[ins.B]++
			bad := ins.B <= p || makers[ins.B] > 1
			for _, up := range c.Protos[ins.B].Ups {
				bad = bad || up.Index < 0 || up.Local && up.Index >= proto.Regs || !up.Local && up.Index >= len(proto.Ups)
			}
			if bad {
				found = append(found, faultOf(6, p, i))
			}
		}
	}
	for p := range makers {
		if p > 0 && makers[p] == 0 {
			found = append(found, faultOf(7, p, 0))
		}
	}
	if len(found) == 0 {
		return impl.Fault{}
	}
	sort.Slice(found, func(i, j int) bool { return before(found[i], found[j]) })
	return found[0]
}

func modelProto(c impl.Code, p int, proto impl.Proto) []impl.Fault {
	var found []impl.Fault
	room := proto.Regs
	if proto.Rest {
		room--
	}
	if len(proto.Name) > 40 || proto.Line < 0 || proto.Line > 100000 || proto.Regs < 0 || proto.Regs > 250 || proto.Params < 0 || proto.Params > room ||
		len(proto.Ups) > 250 || len(proto.Consts) > 500 || p == 0 && proto.Params+len(proto.Ups) > 0 {
		found = append(found, faultOf(2, p, 0))
	}
	for i, v := range proto.Consts {
		if !impl.ValueOk(v) || v.Kind >= impl.KTable && v.Kind <= impl.KTask || v.Flt != v.Flt || v.Kind != impl.KFlt && 1/v.Flt < 0 {
			found = append(found, faultOf(3, p, i))
		}
	}
	for i, n := range proto.Named {
		if n.Name == "" || len(n.Name) > 40 || n.Reg < 0 || n.Reg >= proto.Regs || n.From < 0 || n.From > n.To || n.To > len(proto.Ins) || i == 500 {
			found = append(found, faultOf(4, p, i))
		}
	}
	if len(proto.Ins) == 0 {
		return append(found, faultOf(5, p, 0))
	}
	for i, ins := range proto.Ins {
		bad := ins.Op < 1 || ins.Op > 42
		if !bad {
			for j, x := range modelFields(ins) {
				s := modelSpan(formOf(ins.Op)[j], c, proto)
				bad = bad || x < s.least || x > s.most
			}
			bad = bad || i == len(proto.Ins)-1 && !slices.Contains([]int{19, 29, 30}, ins.Op)
		}
		if bad {
			found = append(found, faultOf(5, p, i))
		}
	}
	return found
}

// modelState is a state as a text of types and the guards.
type modelState struct {
	types  string
	guards []impl.Guard
}

func (s modelState) text() string {
	full := impl.State{Reached: true, Guards: s.guards}
	for _, r := range s.types {
		full.Types = append(full.Types, strings.IndexRune(".vbl", r))
	}
	return stateText(full)
}

func withType(types string, reg int, t byte) string {
	return types[:reg] + string(t) + types[reg+1:]
}

// modelRead answers the types when all operands were read, the registers that were taken, and whether all of them held what they had to.
func modelRead(c impl.Code, ins impl.Ins, types string) (string, []int, bool) {
	var taken []int
	places := map[int]int{}
	wants := map[byte]string{'v': "v", 't': "l", '1': "v", '2': "b", '3': "l", 'F': "vvv", 'E': "v.", 'N': "vv"}
	for j, x := range modelFields(ins) {
		form := formOf(ins.Op)[j]
		want, isRead := wants[form]
		if !isRead {
			continue
		}
		reg := x
		if x < 0 {
			reg = -1 - x
		}
		if types[reg:reg+len(want)] != want || x < 0 && places[reg] > 0 {
			return "", nil, false
		}
		if form != 'v' && form != 't' {
			places[reg]++
		}
		if x < 0 {
			types = withType(types, reg, '.')
			taken = append(taken, reg)
		}
		if form == 'E' {
			taken = append(taken, reg)
		}
	}
	if ins.Op == impl.IFn {
		for _, up := range c.Protos[ins.B].Ups {
			if up.Local && types[up.Index] != 'b' {
				return "", nil, false
			}
		}
	}
	return types, taken, true
}

func modelPut(ins impl.Ins, types string) string {
	for j, x := range modelFields(ins) {
		switch formOf(ins.Op)[j] {
		case 'V':
			types = withType(types, x, 'v')
		case 'B':
			types = withType(types, x, 'b')
		case 'T':
			types = withType(types, x, 'l')
		case 'D':
			types = withType(types, x, '.')
		case 'E':
			types = withType(types, x+1, 'v')
		}
	}
	return types
}

// modelGuards answers the guards behind an instruction, and whether it may stand there.
func modelGuards(ins impl.Ins, guards []impl.Guard) ([]impl.Guard, bool) {
	keep := -1
	switch ins.Op {
	case impl.ITry:
		keep = ins.B
	case impl.IScope, impl.IKeep:
		keep = ins.A
	}
	for _, g := range guards {
		if keep >= 0 && g.Try && keep < g.Keep {
			return nil, false
		}
	}
	n := len(guards)
	behind := slices.Clone(guards)
	switch ins.Op {
	case impl.ITry:
		return append(behind, impl.Guard{Try: true, Keep: ins.B, Handler: ins.A}), n < 50
	case impl.IScope:
		return append(behind, impl.Guard{Keep: ins.A}), n < 50
	case impl.IEndTry:
		if n == 0 || !guards[n-1].Try {
			return nil, false
		}
		return behind[:n-1], true
	case impl.IKeep, impl.IDefer, impl.ILeave:
		if n == 0 || guards[n-1].Try {
			return nil, false
		}
		if ins.Op == impl.IKeep {
			behind[n-1].Keep = ins.A
		}
		if ins.Op == impl.ILeave {
			behind = behind[:n-1]
		}
	}
	return behind, true
}

// modelWay is a follower and the state that it gets.
type modelWay struct {
	to    int
	state modelState
}

func modelWays(ins impl.Ins, at int, ahead, behind modelState) []modelWay {
	var ways []modelWay
	if ins.Op != impl.IJump && ins.Op != impl.IReturn && ins.Op != impl.IThrow {
		ways = append(ways, modelWay{at + 1, behind})
	}
	switch ins.Op {
	case impl.IJump:
		ways = append(ways, modelWay{ins.A, behind})
	case impl.IIf, impl.IUnless, impl.IForTest, impl.IForNext:
		ways = append(ways, modelWay{ins.B, behind})
	case impl.IEachNext:
		ways = append(ways, modelWay{ins.B, ahead})
	case impl.ITry:
		types := ahead.types[:ins.B] + "vv" + strings.Repeat(".", len(ahead.types)-ins.B-2)
		ways = append(ways, modelWay{ins.A, modelState{types, ahead.guards}})
	}
	return ways
}

// modelWalk answers the states of a proto, as texts, or the first fault.
func modelWalk(c impl.Code, p int) ([]string, impl.Fault) {
	proto := c.Protos[p]
	states := map[int]modelState{0: {types: modelStart(proto)}}
	steps := map[int][]int{}
	for due := []int{0}; len(due) > 0; {
		at := slices.Min(due)
		due = slices.DeleteFunc(due, func(i int) bool { return i == at })
		ins, ahead := proto.Ins[at], states[at]
		read, taken, ok := modelRead(c, ins, ahead.types)
		if !ok {
			return nil, faultOf(10, p, at)
		}
		guards, ok := modelGuards(ins, ahead.guards)
		if !ok {
			return nil, faultOf(11, p, at)
		}
		behind := modelState{modelPut(ins, read), guards}
		for _, g := range ahead.guards {
			if g.Try && (behind.types[:g.Keep] != ahead.types[:g.Keep] || slices.ContainsFunc(taken, func(reg int) bool { return reg < g.Keep })) {
				return nil, faultOf(12, p, at)
			}
		}
		for _, w := range modelWays(ins, at, ahead, behind) {
			known, reached := states[w.to]
			if reached && known.text() != w.state.text() {
				return nil, faultOf(13, p, w.to)
			}
			if !reached {
				states[w.to] = w.state
				due = append(due, w.to)
			}
			if modelSilent(ins, at, w.to) {
				steps[at] = append(steps[at], w.to)
			}
		}
	}
	for at := range proto.Ins {
		if modelLeads(steps, at, at, map[int]int{}) {
			return nil, faultOf(14, p, at)
		}
	}
	var texts []string
	for at := range proto.Ins {
		if s, ok := states[at]; ok {
			texts = append(texts, s.text())
		} else {
			texts = append(texts, "-")
		}
	}
	return texts, impl.Fault{}
}

func modelStart(p impl.Proto) string {
	types := strings.Repeat("v", p.Params)
	if p.Rest {
		types += "l"
	}
	return types + strings.Repeat(".", p.Regs-len(types))
}

func modelSilent(ins impl.Ins, at, to int) bool {
	switch ins.Op {
	case impl.ILine, impl.ITick, impl.ICall:
		return false
	case impl.IBinary:
		return ins.B != impl.OpJoin
	case impl.IEachNext:
		return to == ins.B
	}
	return true
}

// modelLeads tells whether steps lead from one instruction to another.
func modelLeads(steps map[int][]int, from, to int, seen map[int]int) bool {
	for _, s := range steps[from] {
		if s == to {
			return true
		}
		if seen[s]++; seen[s] == 1 && modelLeads(steps, s, to, seen) {
			return true
		}
	}
	return false
}

// modelCode answers the states of all protos, or the first fault.
func modelCode(c impl.Code) ([][]string, impl.Fault) {
	if f := modelShape(c); f != (impl.Fault{}) {
		return nil, f
	}
	var all [][]string
	for p := range c.Protos {
		texts, f := modelWalk(c, p)
		if f != (impl.Fault{}) {
			return nil, f
		}
		all = append(all, texts)
	}
	return all, impl.Fault{}
}
