package tests

import (
	"fmt"
	"slices"
	"strconv"
	"strings"

	"loop.example/punch/impl"
)

// The codes of the tests of stepping are written as texts, a statement a line (or with ; between them, and a # ahead of what is said to people):
//
//	proto NAME params=N rest regs=N line=N ups=l0,u1   begins a proto (no Name with a - ahead of it, 10 registers if it is not said)
//	word:                                              names the instruction behind it
//	name NAME R FROM TO                                a Named of register R, from and to words or numbers: from here on and to the end of the proto if it is not said
//	add 1 ~2                                           an instruction by its name in listings; ~2 takes register 2
//	jump word   const 0 "a"   fn 0 NAME   binary 0 add 1 2
//
// and by these, which use the last two registers for their own and leave nothing there:
//
//	do CALLEE ARGS       a call of which the values are dropped
//	let R CALLEE ARGS    register R becomes the first value of a call
//	all R CALLEE ARGS    register R becomes the list of values
//	ret ARGS             returns
//	raise ARG            throws
//	later CALLEE ARGS    a defer
//	field R KEY VAL      puts into the table in R, with no handler
//	entry R V KEY        register R becomes V at KEY
//	store V KEY VAL      V is written at KEY
//	seq R ARGS           register R becomes the list
//
// where a callee or an argument is r2 (a register), ~r2 (one that is taken), or a const: 12, 1.5, "a", nil, true, false or the name of a builtin.

var builtinNames = []string{"print", "read", "type", "text", "setkind", "kind", "rawget", "rawset", "task", "resume", "yield", "status", "giveup", "collect", "cells"}

var operationNames = []string{"", "add", "sub", "mul", "div", "idiv", "mod", "and", "or", "xor", "shl", "shr", "join", "eq", "ne", "lt", "le", "gt", "ge", "neg", "flip", "not", "len"}

// loom puts one code together.
type loom struct {
	code   impl.Code
	protos []string
	proto  *impl.Proto
	labels map[string]int
	jumps  []jump
	fns    []jump
	spans  []nameSpan
}

// nameSpan is the From and the To of a Named, which are known once all words are.
type nameSpan struct{ from, to string }

// jump is a field of an instruction that is known once all names are.
type jump struct {
	proto, at int
	inB       bool
	name      string
}

// woven is the code of a text.
func woven(text string) impl.Code {
	l := &loom{}
	for _, line := range strings.Split(text, "\n") {
		line, _, _ = strings.Cut(line, "#")
		for _, statement := range strings.Split(line, ";") {
			if words := wordsOf(statement); len(words) > 0 {
				l.statement(words)
			}
		}
	}
	l.tie()
	for _, f := range l.fns {
		l.code.Protos[f.proto].Ins[f.at].B = slices.Index(l.protos, f.name)
	}
	return l.code
}

// wordsOf keeps what stands in quotes together.
func wordsOf(statement string) []string {
	var words []string
	for rest := strings.TrimSpace(statement); rest != ""; rest = strings.TrimSpace(rest) {
		if quoted, err := strconv.QuotedPrefix(rest); err == nil {
			words = append(words, quoted)
			rest = rest[len(quoted):]
			continue
		}
		word, behind, _ := strings.Cut(rest, " ")
		words = append(words, word)
		rest = behind
	}
	return words
}

func (l *loom) statement(words []string) {
	name, args := words[0], words[1:]
	switch {
	case name == "proto":
		l.begin(args)
	case name == "name":
		l.naming(args)
	case strings.HasSuffix(name, ":"):
		l.labels[strings.TrimSuffix(name, ":")] = len(l.proto.Ins)
	case !l.macro(name, args):
		l.instruction(name, args)
	}
}

func (l *loom) begin(args []string) {
	l.tie()
	l.labels = map[string]int{}
	p := impl.Proto{Name: args[0], Regs: 10}
	if p.Name[0] == '-' {
		p.Name = ""
	}
	for _, arg := range args[1:] {
		what, number, _ := strings.Cut(arg, "=")
		switch what {
		case "params":
			p.Params = numberOf(number)
		case "rest":
			p.Rest = true
		case "regs":
			p.Regs = numberOf(number)
		case "line":
			p.Line = numberOf(number)
		case "ups":
			for _, up := range strings.Split(number, ",") {
				p.Ups = append(p.Ups, impl.Up{Local: up[0] == 'l', Index: numberOf(up[1:])})
			}
		default:
			panic("no such head: " + arg)
		}
	}
	l.protos = append(l.protos, args[0])
	l.code.Protos = append(l.code.Protos, p)
	l.proto = &l.code.Protos[len(l.code.Protos)-1]
}

func (l *loom) naming(args []string) {
	span := nameSpan{from: strconv.Itoa(len(l.proto.Ins))}
	if len(args) > 2 {
		span.from = args[2]
	}
	if len(args) > 3 {
		span.to = args[3]
	}
	l.spans = append(l.spans, span)
	l.proto.Named = append(l.proto.Named, impl.Named{Name: args[0], Reg: numberOf(args[1])})
}

// place is the instruction that a word names, or a number.
func (l *loom) place(word string) int {
	if at, there := l.labels[word]; there {
		return at
	}
	return numberOf(word)
}

func (l *loom) tieNames() {
	for i, span := range l.spans {
		n := &l.proto.Named[i]
		n.From, n.To = l.place(span.from), len(l.proto.Ins)
		if span.to != "" {
			n.To = l.place(span.to)
		}
	}
	l.spans = nil
}

// tie fills in the jumps and the names of the proto at hand.
func (l *loom) tie() {
	l.tieNames()
	for _, j := range l.jumps {
		to, there := l.labels[j.name]
		if !there {
			panic("no such label: " + j.name)
		}
		if ins := &l.code.Protos[j.proto].Ins[j.at]; j.inB {
			ins.B = to
		} else {
			ins.A = to
		}
	}
	l.jumps = nil
}

func numberOf(word string) int {
	n, err := strconv.Atoi(word)
	if err != nil {
		panic(err)
	}
	return n
}

func (l *loom) emit(op int, fields ...int) { l.proto.Ins = append(l.proto.Ins, do(op, fields...)) }

func (l *loom) instruction(name string, args []string) {
	op := slices.Index(modelNames(), name)
	if op < 1 {
		panic("no such instruction: " + name)
	}
	var fields []int
	for i, word := range args {
		fields = append(fields, l.field(op, i, word))
	}
	l.emit(op, fields...)
}

func (l *loom) field(op, i int, word string) int {
	here := jump{len(l.code.Protos) - 1, len(l.proto.Ins), i == 1, word}
	switch form := formOf(op)[i]; {
	case form == 'i':
		l.jumps = append(l.jumps, here)
		return 0
	case form == 'f':
		l.fns = append(l.fns, here)
		return 0
	case form == 'k':
		return l.constant(word)
	case form == 'n' || form == 'm':
		return slices.Index(operationNames, word)
	case word[0] == '~':
		return -1 - numberOf(word[1:])
	}
	return numberOf(word)
}

// constant is the number of a const, which is a new one if there is none like it.
func (l *loom) constant(word string) int {
	v := valueOf(word)
	at := slices.IndexFunc(l.proto.Consts, func(w impl.Value) bool { return alike(v, w) })
	if at < 0 {
		at = len(l.proto.Consts)
		l.proto.Consts = append(l.proto.Consts, v)
	}
	return at
}

func valueOf(word string) impl.Value {
	if s, err := strconv.Unquote(word); err == nil {
		return strOf(s)
	}
	if n, err := strconv.ParseInt(word, 10, 64); err == nil {
		return intOf(n)
	}
	if f, err := strconv.ParseFloat(word, 64); err == nil {
		return fltOf(f)
	}
	if b := slices.Index(builtinNames, word); b >= 0 {
		return builtinOf(int64(b))
	}
	switch word {
	case "nil":
		return nilValue()
	case "true", "false":
		return boolOf(word == "true")
	}
	panic("no such value: " + word)
}

// macro answers false when there is none of that name.
func (l *loom) macro(name string, args []string) bool {
	list, spare := l.proto.Regs-2, l.proto.Regs-1
	switch name {
	case "do":
		l.calling(list, args)
		l.emit(impl.IDrop, list)
	case "let":
		l.calling(list, args[1:])
		l.emit(impl.IFirst, numberOf(args[0]), -1-list)
	case "all":
		l.calling(numberOf(args[0]), args[1:])
	case "ret":
		l.listing(list, args)
		l.emit(impl.IReturn, -1-list)
	case "raise":
		l.emit(impl.IThrow, l.operand(spare, args[0]))
	case "later":
		l.listing(list, args[1:])
		l.emit(impl.IDefer, l.operand(spare, args[0]), -1-list)
	case "field":
		l.emit(impl.IRaw, numberOf(args[0]), l.operand(list, args[1]), l.operand(spare, args[2]))
	case "entry":
		l.emit(impl.IIndex, numberOf(args[0]), l.operand(list, args[1]), l.operand(spare, args[2]))
	case "store":
		// Three consts would need a third register.
		l.emit(impl.ISet, l.operand(list, args[0]), l.operand(list, args[1]), l.operand(spare, args[2]))
	case "seq":
		l.listing(numberOf(args[0]), args[1:])
	default:
		return false
	}
	return true
}

func (l *loom) calling(place int, args []string) {
	list, spare := l.proto.Regs-2, l.proto.Regs-1
	l.listing(list, args[1:])
	l.emit(impl.ICall, place, l.operand(spare, args[0]), -1-list)
}

func (l *loom) listing(list int, args []string) {
	l.emit(impl.IList, list)
	for _, arg := range args {
		l.emit(impl.IAdd, list, l.operand(l.proto.Regs-1, arg))
	}
}

// operand is a register, or one into which a const is put first.
func (l *loom) operand(spare int, word string) int {
	switch {
	case word[0] == 'r' && word != "read" && word != "rawget" && word != "rawset" && word != "resume":
		return numberOf(word[1:])
	case word[0] == '~':
		return -1 - numberOf(strings.TrimPrefix(word[1:], "r"))
	}
	l.emit(impl.IConst, spare, l.constant(word))
	return -1 - spare
}

var recNames = []string{"", "line", "call", "back", "throw", "catch", "print", "turn", "last"}

// reportText writes a Report: a line for each record (its kind, its task and fn, its line, its text), then the Code with ticks and cells made, and what there is of values, an error and a trace.
func reportText(r impl.Report) string {
	var out []string
	for _, x := range r.Recs {
		out = append(out, recText(x))
	}
	out = append(out, fmt.Sprintf("= %d ticks %d made %d", r.Code, r.Ticks, r.Made))
	if len(r.Vals) > 0 {
		out = append(out, "vals "+plainly(strings.Join(r.Vals, " ")))
	}
	if r.Error != "" || r.Trace != "" {
		out = append(out, "error "+plainly(r.Error), "trace "+plainly(r.Trace))
	}
	return trimmed(strings.Join(out, "\n"))
}

func recText(x impl.Rec) string {
	return fmt.Sprintf("%s %d.%d %d %s", recNames[x.Kind], x.Task, x.Fn, x.Line, plainly(x.Text))
}

// plainly is a text as it is, in quotes when it would not be told from another one in a line that is trimmed.
func plainly(text string) string {
	if text != strings.TrimSpace(text) || strings.ContainsAny(text, "\n\"") {
		return strconv.Quote(text)
	}
	return text
}

// trimmed takes the indentation out of a text.
func trimmed(text string) string {
	var out []string
	for _, line := range strings.Split(text, "\n") {
		if line = strings.TrimSpace(line); line != "" {
			out = append(out, line)
		}
	}
	return strings.Join(out, "\n")
}
