package tests

import (
	"slices"
	"strconv"

	"loop.example/punch/impl"
)

// do is an instruction with its fields from A on.
func do(op int, fields ...int) impl.Ins {
	all := [4]int{}
	copy(all[:], fields)
	return impl.Ins{Op: op, A: all[0], B: all[1], C: all[2], D: all[3]}
}

func faultOf(code, proto, at int) impl.Fault { return impl.Fault{Code: code, Proto: proto, At: at} }

func protoOf(regs int, ins ...impl.Ins) impl.Proto {
	return impl.Proto{Regs: regs, Consts: []impl.Value{intOf(7)}, Ins: ins}
}

func codeOf(protos ...impl.Proto) impl.Code { return impl.Code{Protos: protos} }

func textOf(regs int, ins ...impl.Ins) impl.Code { return codeOf(protoOf(regs, ins...)) }

// ending is a way out for any registers but none: a list is made in the last one and returned.
func ending(regs int) []impl.Ins {
	return []impl.Ins{do(impl.IList, regs-1), do(impl.IReturn, -regs)}
}

func withEnding(regs int, ins ...impl.Ins) impl.Code {
	return textOf(regs, append(ins, ending(regs)...)...)
}

// plainFn is a proto without a fault.
func plainFn() impl.Proto { return protoOf(1, ending(1)...) }

func times(n int, ins impl.Ins) []impl.Ins { return slices.Repeat([]impl.Ins{ins}, n) }

// linked is a code of n protos without a fault: the text makes a fn of each of the others.
func linked(n int) impl.Code {
	var makes []impl.Ins
	for p := 1; p < n; p++ {
		makes = append(makes, do(impl.IFn, 0, p))
	}
	c := withEnding(1, makes...)
	for range n - 1 {
		c.Protos = append(c.Protos, plainFn())
	}
	return c
}

func copyCode(c impl.Code) impl.Code {
	protos := slices.Clone(c.Protos)
	for p := range protos {
		protos[p].Ups = slices.Clone(protos[p].Ups)
		protos[p].Consts = slices.Clone(protos[p].Consts)
		protos[p].Ins = slices.Clone(protos[p].Ins)
		protos[p].Named = slices.Clone(protos[p].Named)
	}
	return impl.Code{Protos: protos}
}

// stateText writes a state: a letter for each register (. v b l), then the guards (t2@7 catches with Keep 2 and Handler 7, d3 has defers and Keep 3); - is not reached.
func stateText(s impl.State) string {
	if !s.Reached {
		if len(s.Types) > 0 || len(s.Guards) > 0 {
			return "not reached, but not empty"
		}
		return "-"
	}
	text := ""
	for _, t := range s.Types {
		text += string(".vbl"[t])
	}
	for _, g := range s.Guards {
		switch {
		case g.Try:
			text += " t" + strconv.Itoa(g.Keep) + "@" + strconv.Itoa(g.Handler)
		case g.Handler != 0:
			text += " a guard with defers and a handler"
		default:
			text += " d" + strconv.Itoa(g.Keep)
		}
	}
	return text
}

func stateTexts(states []impl.State) []string {
	var out []string
	for _, s := range states {
		out = append(out, stateText(s))
	}
	return out
}
