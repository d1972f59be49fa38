package tests

import (
	"strings"
	"testing"

	"loop.example/punch/impl"
)

func tasksLooks() []looked {
	return []looked{
		{name: "the running task alone", code: `
proto main
  name t 0 ; name got 1
  fn 0 outer
  let 0 task ~r0
  line 1
  let 1 resume r0 "x"
  line 2
  let 1 resume r0
  line 3
  ret
proto outer params=1 line=10
  name x 0 ; name u 1
  fn 1 inner
  let 1 task ~r1
  line 11
  do resume r1 r0
  line 12
  do yield
  line 13
  do resume r1
  ret
proto inner params=1 line=20
  name y 0
  line 21
  do yield
  line 22
  throw 0
`, want: `
line 0.0 1 => 0: 0@1 t=task
turn 1.0 0 resume => 1:
call 1.1 10 outer => 1: 1@0 x=x
line 1.1 11 => 1: 1@11 x=x u=task
turn 2.0 0 resume => 2:
call 2.2 20 inner => 2: 2@0 y=x
line 2.2 21 => 2: 2@21 y=x
turn 1.0 0 yield => 1: 1@11 x=x u=task
line 1.1 12 => 1: 1@12 x=x u=task
turn 0.0 0 yield => 0: 0@1 t=task
line 0.0 2 => 0: 0@2 t=task got=true
turn 1.0 0 resume => 1: 1@12 x=x u=task
line 1.1 13 => 1: 1@13 x=x u=task
turn 2.0 0 resume => 2: 2@21 y=x
line 2.2 22 => 2: 2@22 y=x
throw 2.2 22 x => 2: 2@22 y=x
back 2.2 0 error => 2: 2@0 y=x
turn 1.0 0 error => 1: 1@13 x=x u=task
back 1.1 0 => 1: 1@0 x=x
turn 0.0 0 done => 0: 0@2 t=task got=true
line 0.0 3 => 0: 0@3 t=task got=true
`},
		{name: "a task that has no open call", in: &impl.Input{Ticks: 20, Depth: 1, Cells: 20}, code: `
proto main
  name t 0 ; name ok 1
  fn 0 f
  let 0 task ~r0
  line 1
  let 1 resume r0 "x"
  line 2
  ret
proto f params=1
  name x 0
  ret
`, want: `
line 0.0 1 => 0: 0@1 t=task
turn 1.0 0 resume => 1:
throw 1.0 0 error 8 => 1:
turn 0.0 0 error => 0: 0@1 t=task
line 0.0 2 => 0: 0@2 t=task ok=false
`},
		{name: "guards of a task that is given up", code: `
proto main
  name t 0
  fn 0 f
  let 0 task ~r0
  line 1
  do resume r0 "p"
  line 2
  do giveup r0
  line 3
  ret
proto f params=1 line=10
  name p 0 ; name a 1 ; name b 2
  fn 5 note
  fn 6 g
  scope 2
  later r5 "outer"
  const 1 "a"
  const 2 "b"
  line 11
  do r6 r0 r5
  ret
proto note params=1 line=20
  name word 0
  line 21
  ret
proto g params=2 line=30
  name q 0 ; name note 1 ; name c 2 ; name d 3 ; name e 4
  scope 3
  later r1 "inner"
  const 2 "c"
  try caught 0
  const 3 "d"
  scope 4
  later print "printed"
  const 4 "e"
  line 31
  do yield "y"
  ret
caught:
  throw 0
`, want: `
line 0.0 1 => 0: 0@1 t=task
turn 1.0 0 resume => 1:
call 1.1 10 f => 1: 1@0 p=p
line 1.1 11 => 1: 1@11 p=p a=a b=b
call 1.3 30 g => 1: 3@0 q=p note=fn | 1@11 p=p a=a b=b
line 1.3 31 => 1: 3@31 q=p note=fn c=c d=d e=e | 1@11 p=p a=a b=b
turn 0.0 0 yield => 0: 0@1 t=task
line 0.0 2 => 0: 0@2 t=task
turn 1.0 0 giveup => 1: 3@31 q=p note=fn c=c d=d e=e | 1@11 p=p a=a b=b
print 1.3 0 printed => 1: 3@0 q=p note=fn c=c d=d | 1@11 p=p a=a b=b
call 1.2 20 note => 1: 2@0 word=inner | 3@0 q=p note=fn c=c | 1@11 p=p a=a b=b
line 1.2 21 => 1: 2@21 word=inner | 3@0 q=p note=fn c=c | 1@11 p=p a=a b=b
back 1.2 0 => 1: 2@0 word=inner | 3@0 q=p note=fn c=c | 1@11 p=p a=a b=b
back 1.3 0 gone => 1: 3@0 q=p note=fn | 1@11 p=p a=a b=b
call 1.2 20 note => 1: 2@0 word=outer | 1@0 p=p a=a
line 1.2 21 => 1: 2@21 word=outer | 1@0 p=p a=a
back 1.2 0 => 1: 2@0 word=outer | 1@0 p=p a=a
back 1.1 0 gone => 1: 1@0 p=p
turn 0.0 0 gone => 0: 0@2 t=task
line 0.0 3 => 0: 0@3 t=task
`},
		{name: "errors that are dropped", code: `
proto main
  name t 0 ; name ok 1
  fn 0 f
  let 0 task ~r0
  do resume r0 "p"
  let 1 giveup r0
  line 1
  ret
proto f params=1
  name p 0 ; name a 1 ; name b 2
  scope 1
  later print "outer"
  later yield "outer"
  const 1 "a"
  scope 2
  later yield "inner"
  const 2 "b"
  line 10
  do yield
  ret
`, want: `
turn 1.0 0 resume => 1:
call 1.1 0 f => 1: 1@0 p=p
line 1.1 10 => 1: 1@10 p=p a=a b=b
turn 0.0 0 yield => 0: 0@0 t=task
turn 1.0 0 giveup => 1: 1@10 p=p a=a b=b
throw 1.1 0 error 10 => 1: 1@0 p=p a=a
throw 1.1 0 error 10 => 1: 1@0 p=p
print 1.1 0 outer => 1: 1@0 p=p
back 1.1 0 gone => 1: 1@0 p=p
turn 0.0 0 gone => 0: 0@0 t=task
line 0.0 1 => 0: 0@1 t=task ok=false
`},
		{name: "a new task that is given up makes no turn", code: `
proto main
  name t 0 ; name ok 1
  fn 0 f
  let 0 task ~r0
  let 1 giveup r0
  line 1
  ret
proto f
  ret
`, want: `
line 0.0 1 => 0: 0@1 t=task ok=true
`},
	}
}

// outOfDefers are looks at a task that is given up while it waits in a defer, by how its guard is left.
func outOfDefers(how string) looked {
	l := looked{name: "given up in a defer: " + how, code: `
proto main
  name t 0
  fn 0 f
  let 0 task ~r0
  do resume r0 "p"
  do giveup r0
  ret
proto f params=1
  name p 0 ; name a 1 ; name b 2
  const 1 "a"
  scope 2
  later print "left"
  later yield
  const 2 "b"
  line 1
  HOW
`, want: `
turn 1.0 0 resume => 1:
call 1.1 0 f => 1: 1@0 p=p
line 1.1 1 => 1: 1@1 p=p a=a b=b
THROWN
turn 0.0 0 yield => 0: 0@0 t=task
turn 1.0 0 giveup => 1: 1@0 p=p a=aINNER
print 1.1 0 left => 1: 1@0 p=p a=a
back 1.1 0 gone => 1: 1@0 p=p
turn 0.0 0 gone => 0: 0@0 t=task
`}
	thrown, inner := "", ""
	switch how {
	case "throw 0":
		thrown = "throw 1.1 1 p => 1: 1@1 p=p a=a b=b"
	case "leave ; ret":
		inner = " b=b"
	}
	l.code = strings.Replace(l.code, "HOW", how, 1)
	l.want = strings.NewReplacer("THROWN", thrown, "INNER", inner).Replace(l.want)
	return l
}

func TestLooksAtTasks(t *testing.T) {
	holdLooks(t, tasksLooks())
	for _, how := range []string{"throw 0", "ret", "leave ; ret"} {
		holdLooks(t, []looked{outOfDefers(how)})
	}
}

func handlersLooks() []looked {
	return []looked{
		{name: "handlers that are fns", code: `
proto main
  name t 0 ; name kind 1 ; name place 2 ; name key 3
  table 0
  table 1
  fn 2 h
  field 1 "index" r2
  field 1 "setindex" r2
  field 1 "add" r2
  field 1 "neg" r2
  field 1 "call" ~r2
  do setkind r0 r1
  const 2 "place"
  const 3 "key"
  line 1
  index 2 0 3
  line 2
  set 0 3 2
  line 3
  binary 2 add 0 ~3
  line 4
  unary 2 neg 0
  line 5
  do r0 "arg"
  line 6
  ret
proto h params=2 line=10
  name self 0 ; name other 1 ; name made 2
  const 2 "made"
  ret r2
`, want: `
line 0.0 1 => 0: 0@1 t=table kind=table place=place key=key
call 0.1 10 h => 0: 1@0 self=table other=key | 0@1 t=table kind=table place=place key=key
back 0.1 0 => 0: 1@0 self=table other=key | 0@1 t=table kind=table place=place key=key
line 0.0 2 => 0: 0@2 t=table kind=table place=made key=key
call 0.1 10 h => 0: 1@0 self=table other=key | 0@2 t=table kind=table place=made key=key
back 0.1 0 => 0: 1@0 self=table other=key | 0@2 t=table kind=table place=made key=key
line 0.0 3 => 0: 0@3 t=table kind=table place=made key=key
call 0.1 10 h => 0: 1@0 self=table other=key | 0@3 t=table kind=table place=made
back 0.1 0 => 0: 1@0 self=table other=key | 0@3 t=table kind=table place=made
line 0.0 4 => 0: 0@4 t=table kind=table place=made
call 0.1 10 h => 0: 1@0 self=table other=nil | 0@4 t=table kind=table place=made
back 0.1 0 => 0: 1@0 self=table other=nil | 0@4 t=table kind=table place=made
line 0.0 5 => 0: 0@5 t=table kind=table place=made
call 0.1 10 h => 0: 1@0 self=table other=arg | 0@5 t=table kind=table place=made
back 0.1 0 => 0: 1@0 self=table other=arg | 0@5 t=table kind=table place=made
line 0.0 6 => 0: 0@6 t=table kind=table place=made
`},
		{name: "a handler that is a builtin makes its record at the instruction", code: `
proto main
  name t 0 ; name place 2
  name there 0 there behind
  table 0
  table 1
  field 1 "index" print
  do setkind r0 ~r1
  const 1 "key"
  const 2 "place"
  line 1
there:
  index 2 0 ~1
behind:
  line 2
  ret
`, want: `
line 0.0 1 => 0: 0@1 t=table place=place
print 0.0 1 table key => 0: 0@1 t=table place=place there=table
line 0.0 2 => 0: 0@2 t=table place=nil
`},
		{name: "going through what a handler gives", code: `
proto main
  name it 0 ; name stands 1 ; name turn 2
  table 0
  table 1
  fn 2 each
  field 1 "each" ~r2
  do setkind r0 ~r1
  line 1
  each 0
  line 2
  eachnext 0 end 2
  drop 2
end:
  line 3
  ret
proto each params=1
  name self 0
  fn 1 next
  ret r1
proto next
  ret
`, want: `
line 0.0 1 => 0: 0@1 it=table
call 0.1 0 each => 0: 1@0 self=table | 0@1
back 0.1 0 => 0: 1@0 self=table | 0@1
line 0.0 2 => 0: 0@2 it=fn stands=nil
call 0.2 0 next => 0: 2@0 | 0@2 it=fn stands=nil
back 0.2 0 => 0: 2@0 | 0@2 it=fn stands=nil
line 0.0 3 => 0: 0@3 it=fn stands=nil
`},
		{name: "going through a table", code: `
proto main
  name it 0 ; name stands 1 ; name turn 2 ; name key 3
  table 0
  field 0 "a" 1
  field 0 "b" 2
  each 0
round:
  eachnext 0 end 2
  first 3 ~2
  line 1
  drop 3
  jump round
end:
  line 2
  ret
`, want: `
line 0.0 1 => 0: 0@1 it=table stands=1 key=a
line 0.0 1 => 0: 0@1 it=table stands=2 key=b
line 0.0 2 => 0: 0@2 it=table stands=2
`},
		{name: "last words, and one that fails", code: `
proto main
  name x 0 ; name kind 1
  table 0
  table 1
  fn 2 last
  field 1 "last" ~r2
  do setkind r0 r1
  table 2
  do setkind ~r2 r1
  line 1
  do collect
  drop 0
  line 2
  do collect
  line 3
  ret
proto last params=1 line=10
  name it 0 ; name v 1
  const 1 "v"
  line 11
  throw ~1
`, want: `
line 0.0 1 => 0: 0@1 x=table kind=table
last 0.0 0 => 0: 0@1 x=table kind=table
call 0.1 10 last => 0: 1@0 it=table | 0@1 x=table kind=table
line 0.1 11 => 0: 1@11 it=table v=v | 0@1 x=table kind=table
throw 0.1 11 v => 0: 1@11 it=table | 0@1 x=table kind=table
back 0.1 0 error => 0: 1@0 it=table | 0@1 x=table kind=table
catch 0.0 0 v => 0: 0@1 x=table kind=table
line 0.0 2 => 0: 0@2 kind=table
last 0.0 0 => 0: 0@2 kind=table
call 0.1 10 last => 0: 1@0 it=table | 0@2 kind=table
line 0.1 11 => 0: 1@11 it=table v=v | 0@2 kind=table
throw 0.1 11 v => 0: 1@11 it=table | 0@2 kind=table
back 0.1 0 error => 0: 1@0 it=table | 0@2 kind=table
catch 0.0 0 v => 0: 0@2 kind=table
line 0.0 3 => 0: 0@3 kind=table
`},
		{name: "last words in a task, in a call that is being left", code: `
proto main
  name t 0 ; name kind 1
  table 1
  fn 2 last
  field 1 "last" ~r2
  fn 0 f
  let 0 task ~r0
  line 1
  do resume r0 r1
  line 2
  ret
proto last params=1 line=10
  name it 0
  line 11
  ret
proto f params=1 line=20
  name kind 0 ; name x 1
  scope 1
  later collect
  table 1
  do setkind r1 r0
  line 21
  ret
`, want: `
line 0.0 1 => 0: 0@1 t=task kind=table
turn 1.0 0 resume => 1:
call 1.2 20 f => 1: 2@0 kind=table
line 1.2 21 => 1: 2@21 kind=table x=table
last 1.0 0 => 1: 2@0 kind=table
call 1.1 10 last => 1: 1@0 it=table | 2@0 kind=table
line 1.1 11 => 1: 1@11 it=table | 2@0 kind=table
back 1.1 0 => 1: 1@0 it=table | 2@0 kind=table
back 1.2 0 => 1: 2@0 kind=table
turn 0.0 0 done => 0: 0@1 t=task kind=table
line 0.0 2 => 0: 0@2 t=task kind=table
`},
	}
}

func TestLooksAtHandlersAndLastWords(t *testing.T) { holdLooks(t, handlersLooks()) }
