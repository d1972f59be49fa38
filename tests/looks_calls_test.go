package tests

import (
	"testing"

	"loop.example/punch/impl"
)

func callsLooks() []looked {
	return []looked{
		{name: "several open calls, each with its line", in: &impl.Input{Args: []string{"x"}, Ticks: 50, Depth: 5, Cells: 50}, code: `
proto main rest
  name args 0
  name f 1
  line 1
  fn 1 outer
  line 2
  do r1 "a" 2
  line 3
  do r1 "a" 2 3 4
  ret
proto outer params=3 rest line=10
  name a 0 ; name b 1 ; name c 2 ; name others 3
  line 11
  fn 4 inner
  at 12
  do r4 r0
  line 13
  ret
proto inner params=1 line=20
  name z 0 0 1
  line 21
  move 1 ~0
  name y 1
  line 22
  ret
`, want: `
line 0.0 1 => 0: 0@1
line 0.0 2 => 0: 0@2 f=fn
call 0.1 10 outer => 0: 1@0 a=a b=2 c=nil | 0@2 f=fn
line 0.1 11 => 0: 1@11 a=a b=2 c=nil | 0@2 f=fn
call 0.2 20 inner => 0: 2@0 z=a | 1@12 a=a b=2 c=nil | 0@2 f=fn
line 0.2 21 => 0: 2@21 z=a | 1@12 a=a b=2 c=nil | 0@2 f=fn
line 0.2 22 => 0: 2@22 y=a | 1@12 a=a b=2 c=nil | 0@2 f=fn
back 0.2 0 => 0: 2@0 | 1@12 a=a b=2 c=nil | 0@2 f=fn
line 0.1 13 => 0: 1@13 a=a b=2 c=nil | 0@2 f=fn
back 0.1 0 => 0: 1@0 a=a b=2 c=nil | 0@2 f=fn
line 0.0 3 => 0: 0@3 f=fn
call 0.1 10 outer => 0: 1@0 a=a b=2 c=3 | 0@3 f=fn
line 0.1 11 => 0: 1@11 a=a b=2 c=3 | 0@3 f=fn
call 0.2 20 inner => 0: 2@0 z=a | 1@12 a=a b=2 c=3 | 0@3 f=fn
line 0.2 21 => 0: 2@21 z=a | 1@12 a=a b=2 c=3 | 0@3 f=fn
line 0.2 22 => 0: 2@22 y=a | 1@12 a=a b=2 c=3 | 0@3 f=fn
back 0.2 0 => 0: 2@0 | 1@12 a=a b=2 c=3 | 0@3 f=fn
line 0.1 13 => 0: 1@13 a=a b=2 c=3 | 0@3 f=fn
back 0.1 0 => 0: 1@0 a=a b=2 c=3 | 0@3 f=fn
`},
		{name: "a fn that calls itself", code: `
proto main
  const 0 nil
  box 0 ~0
  fn 1 g
  put 0 1
  at 9
  do r1 true
  ret
proto g params=1 ups=l0 line=30
  name n 0
  at 31
  unless 0 end
  upget 1 0
  line 32
  do r1 false
  drop 1
end:
  line 33
  ret
`, want: `
call 0.1 30 g => 0: 1@0 n=true | 0@9
line 0.1 32 => 0: 1@32 n=true | 0@9
call 0.1 30 g => 0: 1@0 n=false | 1@32 n=true | 0@9
line 0.1 33 => 0: 1@33 n=false | 1@32 n=true | 0@9
back 0.1 0 => 0: 1@0 n=false | 1@32 n=true | 0@9
line 0.1 33 => 0: 1@33 n=true | 0@9
back 0.1 0 => 0: 1@0 n=true | 0@9
`},
		{name: "at its beginning a call stands at instruction 0 with line 0", code: `
proto main
  fn 0 f
  line 1
  do r0 5
  ret
proto f params=2 rest regs=9 line=77
  name first 0 0 1
  name second 1 0 1
  name late 0 1 2
  name others 2 0 1
  tick
  line 78
  ret
`, want: `
line 0.0 1 => 0: 0@1
call 0.1 77 f => 0: 1@0 first=5 second=nil | 0@1
line 0.1 78 => 0: 1@78 late=5 | 0@1
back 0.1 0 => 0: 1@0 | 0@1
`},
		{name: "at its end a call shows registers below Params alone, with line 0", code: `
proto main
  fn 0 f
  line 1
  do r0 1 2 3
  line 2
  ret
proto f params=3
  name a 0 ; name b 1 ; name c 2 ; name d 3 ; name before 0 0 end ; name there 0 end behind
  const 3 4
  box 0 ~0
  drop 1
  line 10
  list 4
end:
  return ~4
behind:
`, want: `
line 0.0 1 => 0: 0@1
call 0.1 0 f => 0: 1@0 a=1 b=2 c=3 before=1 | 0@1
line 0.1 10 => 0: 1@10 a=1 c=3 d=4 before=1 | 0@1
back 0.1 0 => 0: 1@0 a=1 c=3 there=1 | 0@1
line 0.0 2 => 0: 0@2
`},
		{name: "what is taken is gone, and a place holds what it held", code: `
proto main
  name a 0 ; name b 1 ; name callee 3 ; name place 4
  const 0 "a"
  const 1 "b"
  line 1
  seq 2 ~r0
  const 3 print
  const 4 "before"
  call 4 3 2
  const 4 "again"
  call 4 ~3 ~2
  drop 4
  line 2
  try caught 5
  throw 1
caught:
  drop 5
  drop 6
  line 3
  throw ~1
`, want: `
line 0.0 1 => 0: 0@1 a=a b=b
print 0.0 1 a => 0: 0@1 b=b callee=builtin place=before
print 0.0 1 a => 0: 0@1 b=b place=again
line 0.0 2 => 0: 0@2 b=b
throw 0.0 2 b => 0: 0@2 b=b
catch 0.0 2 b => 0: 0@2 b=b
line 0.0 3 => 0: 0@3 b=b
throw 0.0 3 b => 0: 0@3
`},
		{name: "errors of the machine: what was taken is gone, and nothing is put", code: `
proto main
  name a 0 ; name b 2 ; name to 3
  const 0 "a"
  try caught 1
  const 2 nil
  const 3 "to"
  binary 3 add 0 ~2
  throw 0
caught:
  drop 1 ; drop 2
  const 2 "key"
  const 3 "to"
  line 1
  index 3 0 ~2
  throw 0
`, want: `
throw 0.0 0 error 1 => 0: 0@0 a=a to=to
catch 0.0 0 error 1 => 0: 0@0 a=a
line 0.0 1 => 0: 0@1 a=a b=key to=to
throw 0.0 1 error 7 => 0: 0@1 a=a to=to
`},
		{name: "an error goes through calls", code: `
proto main
  name f 0 ; name x 1
  fn 0 outer
  const 1 "main's"
  line 1
  try caught 2
  line 2
  do r0 "p" "q"
  throw 1
caught:
  line 3
  ret
proto outer params=2 line=10
  name p 0 ; name q 1 ; name a 2
  fn 3 inner
  const 2 "a"
  line 11
  do r3 r1
  ret
proto inner params=1 line=20
  name q 0 ; name b 1
  const 1 "b"
  line 21
  throw 0
`, want: `
line 0.0 1 => 0: 0@1 f=fn x=main's
line 0.0 2 => 0: 0@2 f=fn x=main's
call 0.1 10 outer => 0: 1@0 p=p q=q | 0@2 f=fn x=main's
line 0.1 11 => 0: 1@11 p=p q=q a=a | 0@2 f=fn x=main's
call 0.2 20 inner => 0: 2@0 q=q | 1@11 p=p q=q a=a | 0@2 f=fn x=main's
line 0.2 21 => 0: 2@21 q=q b=b | 1@11 p=p q=q a=a | 0@2 f=fn x=main's
throw 0.2 21 q => 0: 2@21 q=q b=b | 1@11 p=p q=q a=a | 0@2 f=fn x=main's
back 0.2 0 error => 0: 2@0 q=q | 1@11 p=p q=q a=a | 0@2 f=fn x=main's
back 0.1 0 error => 0: 1@0 p=p q=q | 0@2 f=fn x=main's
catch 0.0 1 q => 0: 0@1 f=fn x=main's
line 0.0 3 => 0: 0@3 f=fn x=main's
`},
		{name: "a catch stands at its handler, and holds no error yet", code: `
proto main
  name kept 0
  name before 0 0 handler
  name there 0 handler end
  name inner 1 0 handler
  name error 1 handler end
  name trace 2 handler end
  line 1
  const 0 "kept"
  try handler 1
  line 2
  const 1 "in"
  const 2 "side"
  line 3
  raise "x"
handler:
  line 4
  drop 1
end:
  line 5
  ret
`, want: `
line 0.0 1 => 0: 0@1
line 0.0 2 => 0: 0@2 kept=kept before=kept
line 0.0 3 => 0: 0@3 kept=kept before=kept inner=in
throw 0.0 3 x => 0: 0@3 kept=kept before=kept inner=in
catch 0.0 1 x => 0: 0@1 kept=kept there=kept
line 0.0 4 => 0: 0@4 kept=kept there=kept error=x trace=main:3
line 0.0 5 => 0: 0@5 kept=kept
`},
		{name: "a handler at instruction 0", in: &impl.Input{Ticks: 5, Depth: 2, Cells: 1}, code: `
proto main
  fn 0 f
  do r0 "p" "q"
  ret
proto f params=2
  name a 0 0 1
  name b 0 2 3
  name c 1
handler:
  line 3
  try handler 0
  line 4
  throw 0
`, want: `
call 0.1 0 f => 0: 1@0 a=p c=q | 0@0
line 0.1 3 => 0: 1@3 a=p c=q | 0@0
line 0.1 4 => 0: 1@4 b=p c=q | 0@0
throw 0.1 4 p => 0: 1@4 c=q | 0@0
catch 0.1 3 p => 0: 1@3 | 0@0
line 0.1 3 => 0: 1@3 a=p c="f:4 main:0" | 0@0
line 0.1 4 => 0: 1@4 b=p c="f:4 main:0" | 0@0
throw 0.1 4 p => 0: 1@4 c="f:4 main:0" | 0@0
catch 0.1 3 p => 0: 1@3 | 0@0
`},
	}
}

func TestLooksAtCalls(t *testing.T) { holdLooks(t, callsLooks()) }
