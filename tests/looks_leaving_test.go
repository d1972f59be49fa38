package tests

import "testing"

func leavingLooks() []looked {
	return []looked{
		{name: "guards one in the other, left by an error", code: `
proto main
  name f 0
  fn 0 f
  line 1
  try caught 1
  do r0 "p" "q"
  endtry
  ret
caught:
  line 2
  ret
proto f params=2 line=10
  name p 0 ; name q 1 ; name a 2 ; name b 3 ; name c 4
  fn 5 d
  line 11
  scope 2
  later r5 1
  const 2 "a"
  line 12
  scope 3
  later r5 2
  const 3 "b"
  scope 4
  later print 3
  const 4 "c"
  line 13
  raise "boom"
proto d params=1
  name n 0
  line 20
  ret
`, want: `
line 0.0 1 => 0: 0@1 f=fn
call 0.1 10 f => 0: 1@0 p=p q=q | 0@1 f=fn
line 0.1 11 => 0: 1@11 p=p q=q | 0@1 f=fn
line 0.1 12 => 0: 1@12 p=p q=q a=a | 0@1 f=fn
line 0.1 13 => 0: 1@13 p=p q=q a=a b=b c=c | 0@1 f=fn
throw 0.1 13 boom => 0: 1@13 p=p q=q a=a b=b c=c | 0@1 f=fn
print 0.1 12 3 => 0: 1@12 p=p q=q a=a b=b | 0@1 f=fn
call 0.2 0 d => 0: 2@0 n=2 | 1@12 p=p q=q a=a | 0@1 f=fn
line 0.2 20 => 0: 2@20 n=2 | 1@12 p=p q=q a=a | 0@1 f=fn
back 0.2 0 => 0: 2@0 n=2 | 1@12 p=p q=q a=a | 0@1 f=fn
call 0.2 0 d => 0: 2@0 n=1 | 1@11 p=p q=q | 0@1 f=fn
line 0.2 20 => 0: 2@20 n=1 | 1@11 p=p q=q | 0@1 f=fn
back 0.2 0 => 0: 2@0 n=1 | 1@11 p=p q=q | 0@1 f=fn
back 0.1 0 error => 0: 1@0 p=p q=q | 0@1 f=fn
catch 0.0 1 boom => 0: 0@1 f=fn
line 0.0 2 => 0: 0@2 f=fn
`},
		{name: "guards of several sorts, left by a return", code: `
proto main
  name f 0
  fn 0 f
  line 1
  do r0 "p" "q"
  line 2
  ret
proto f params=2 line=10
  name p 0 ; name q 1 ; name a 2 ; name b 3 ; name c 4 ; name d 5
  name ahead 0 0 leaving
  name there 0 leaving behind
  fn 6 note
  line 11
  scope 4
  later r6 "outer"
  const 2 "a"
  line 12
  try caught 2
  const 3 "b"
  const 4 "c"
  line 13
  scope 5
  later r6 "inner"
  later print "printed"
  const 5 "d"
  line 14
  list 7
leaving:
  return ~7
behind:
caught:
  throw 2
proto note params=1 line=20
  name word 0
  ret
`, want: `
line 0.0 1 => 0: 0@1 f=fn
call 0.1 10 f => 0: 1@0 p=p q=q ahead=p | 0@1 f=fn
line 0.1 11 => 0: 1@11 p=p q=q ahead=p | 0@1 f=fn
line 0.1 12 => 0: 1@12 p=p q=q a=a ahead=p | 0@1 f=fn
line 0.1 13 => 0: 1@13 p=p q=q a=a b=b c=c ahead=p | 0@1 f=fn
line 0.1 14 => 0: 1@14 p=p q=q a=a b=b c=c d=d ahead=p | 0@1 f=fn
print 0.1 13 printed => 0: 1@13 p=p q=q a=a b=b c=c there=p | 0@1 f=fn
call 0.2 20 note => 0: 2@0 word=inner | 1@13 p=p q=q a=a b=b c=c there=p | 0@1 f=fn
back 0.2 0 => 0: 2@0 word=inner | 1@13 p=p q=q a=a b=b c=c there=p | 0@1 f=fn
call 0.2 20 note => 0: 2@0 word=outer | 1@11 p=p q=q a=a b=b there=p | 0@1 f=fn
back 0.2 0 => 0: 2@0 word=outer | 1@11 p=p q=q a=a b=b there=p | 0@1 f=fn
back 0.1 0 => 0: 1@0 p=p q=q there=p | 0@1 f=fn
line 0.0 2 => 0: 0@2 f=fn
`},
		{name: "guards that are left one by one hide nothing", code: `
proto main
  name a 0 ; name b 1 ; name c 2
  const 0 "a"
  fn 5 note
  scope 1
  later r5 "first"
  line 1
  later r5 "second"
  line 2
  const 1 "b"
  scope 2
  later r5 "inner"
  const 2 "c"
  leave
  line 3
  leave
  line 4
  ret
proto note params=1
  name word 0
  ret
`, want: `
line 0.0 1 => 0: 0@1 a=a
line 0.0 2 => 0: 0@2 a=a
call 0.1 0 note => 0: 1@0 word=inner | 0@2 a=a b=b c=c
back 0.1 0 => 0: 1@0 word=inner | 0@2 a=a b=b c=c
line 0.0 3 => 0: 0@3 a=a b=b c=c
call 0.1 0 note => 0: 1@0 word=second | 0@1 a=a b=b c=c
back 0.1 0 => 0: 1@0 word=second | 0@1 a=a b=b c=c
call 0.1 0 note => 0: 1@0 word=first | 0@0 a=a b=b c=c
back 0.1 0 => 0: 1@0 word=first | 0@0 a=a b=b c=c
line 0.0 4 => 0: 0@4 a=a b=b c=c
`},
		{name: "an error that leaves a defer of a guard that is left one by one", code: `
proto main
  name a 0 ; name b 1 ; name c 2
  fn 5 note
  fn 6 fail
  const 0 "a"
  line 1
  try caught 1
  const 1 "b"
  scope 2
  later r5 "last"
  later r6 "boom"
  later r5 "first"
  const 2 "c"
  line 2
  leave
  throw 0
caught:
  line 3
  ret
proto note params=1
  name word 0
  ret
proto fail params=1
  name what 0 ; name v 1
  const 1 "v"
  line 30
  throw 0
`, want: `
line 0.0 1 => 0: 0@1 a=a
line 0.0 2 => 0: 0@2 a=a b=b c=c
call 0.1 0 note => 0: 1@0 word=first | 0@1 a=a b=b c=c
back 0.1 0 => 0: 1@0 word=first | 0@1 a=a b=b c=c
call 0.2 0 fail => 0: 2@0 what=boom | 0@1 a=a b=b c=c
line 0.2 30 => 0: 2@30 what=boom v=v | 0@1 a=a b=b c=c
throw 0.2 30 boom => 0: 2@30 what=boom v=v | 0@1 a=a b=b c=c
back 0.2 0 error => 0: 2@0 what=boom | 0@1 a=a b=b c=c
call 0.1 0 note => 0: 1@0 word=last | 0@1 a=a b=b
back 0.1 0 => 0: 1@0 word=last | 0@1 a=a b=b
catch 0.0 1 boom => 0: 0@1 a=a
line 0.0 3 => 0: 0@3 a=a b=boom c="fail:30 main:1"
`},
		{name: "an error in a call that is being left", code: `
proto main
  name a 0 ; name b 1 ; name c 2
  const 0 "a"
  scope 1
  later print "outer"
  const 1 "b"
  line 1
  scope 2
  later yield
  const 2 "c"
  line 2
  raise "x"
`, want: `
line 0.0 1 => 0: 0@1 a=a b=b
line 0.0 2 => 0: 0@2 a=a b=b c=c
throw 0.0 2 x => 0: 0@2 a=a b=b c=c
throw 0.0 1 error 10 => 0: 0@1 a=a b=b
print 0.0 0 outer => 0: 0@0 a=a
`},
		{name: "an error takes the place of a return, and is caught farther out", code: `
proto main
  name f 0
  fn 0 f
  do r0 "p"
  line 2
  ret
proto f params=1
  name p 0 ; name a 1 ; name b 2 ; name c 3
  line 10
  const 1 "a"
  try caught 2
  line 11
  scope 3
  later print "still"
  later yield
  const 2 "b"
  const 3 "c"
  line 12
  list 5
  return ~5
caught:
  line 13
  ret
`, want: `
call 0.1 0 f => 0: 1@0 p=p | 0@0 f=fn
line 0.1 10 => 0: 1@10 p=p | 0@0 f=fn
line 0.1 11 => 0: 1@11 p=p a=a | 0@0 f=fn
line 0.1 12 => 0: 1@12 p=p a=a b=b c=c | 0@0 f=fn
throw 0.1 11 error 10 => 0: 1@11 p=p a=a b=b | 0@0 f=fn
print 0.1 11 still => 0: 1@11 p=p a=a b=b | 0@0 f=fn
catch 0.1 10 error 10 => 0: 1@10 p=p a=a | 0@0 f=fn
line 0.1 13 => 0: 1@13 p=p a=a b=table c="f:11 main:0" | 0@0 f=fn
back 0.1 0 => 0: 1@0 p=p | 0@0 f=fn
line 0.0 2 => 0: 0@2 f=fn
`},
		{name: "the keep is the one that was said last", code: `
proto main
  name a 0 ; name b 1 ; name c 2 ; name d 3
  const 0 "a"
  scope 1
  later print "outer"
  const 1 "b"
  const 2 "c"
  keep 3
  scope 3
  later print "inner"
  const 3 "d"
  keep 2
  raise "x"
`, want: `
throw 0.0 0 x => 0: 0@0 a=a b=b c=c d=d
print 0.0 0 inner => 0: 0@0 a=a b=b
print 0.0 0 outer => 0: 0@0 a=a b=b
`},
		{name: "a keep of 0, and one of all registers", code: `
proto main
  fn 0 f
  do r0 "p"
  ret
proto f params=1 regs=4
  name p 0 ; name a 1 ; name last 3
  scope 0
  later print "none"
  const 1 "a"
  scope 4
  later print "all"
  const 3 "last"
  list 2
  return ~2
`, want: `
call 0.1 0 f => 0: 1@0 p=p | 0@0
print 0.1 0 all => 0: 1@0 p=p a=a last=last | 0@0
print 0.1 0 none => 0: 1@0 | 0@0
back 0.1 0 => 0: 1@0 | 0@0
`},
		{name: "at its end a call shows its arguments, though a guard that a return took off would not have kept them", code: `
proto main
  fn 0 f
  do r0 "p" "q"
  ret
proto f params=2
  name p 0 ; name q 1 ; name a 2
  try caught 0
  const 2 "a"
  list 3
  return ~3
caught:
  throw 0
`, want: `
call 0.1 0 f => 0: 1@0 p=p q=q | 0@0
back 0.1 0 => 0: 1@0 p=p q=q | 0@0
`},
		{name: "boxes of a call that is being left", code: `
proto main
  name a 0 ; name b 1
  const 0 "a"
  box 0 ~0
  const 1 "b"
  box 1 ~1
  fn 2 change
  scope 1
  later r2 "new"
  raise "x"
proto change params=1 ups=l0,l1
  name to 0
  line 10
  upput 0 0
  upput 1 0
  line 11
  ret
`, want: `
throw 0.0 0 x => 0: 0@0 a=a b=b
call 0.1 0 change => 0: 1@0 to=new | 0@0 a=a
line 0.1 10 => 0: 1@10 to=new | 0@0 a=a
line 0.1 11 => 0: 1@11 to=new | 0@0 a=new
back 0.1 0 => 0: 1@0 to=new | 0@0 a=new
`},
		{name: "behind a catch all is shown again", code: `
proto main
  name a 0 ; name b 1 ; name c 2 ; name d 3
  const 0 "a"
  try caught 1
  scope 1
  later print "defer"
  const 3 "d"
  raise "x"
caught:
  const 3 "again"
  line 1
  scope 4
  later print "second"
  leave
  line 2
  ret
`, want: `
throw 0.0 0 x => 0: 0@0 a=a d=d
print 0.0 0 defer => 0: 0@0 a=a
catch 0.0 0 x => 0: 0@0 a=a
line 0.0 1 => 0: 0@1 a=a b=x c=main:0 d=again
print 0.0 1 second => 0: 0@1 a=a b=x c=main:0 d=again
line 0.0 2 => 0: 0@2 a=a b=x c=main:0 d=again
`},
	}
}

func TestLooksAtCallsBeingLeft(t *testing.T) { holdLooks(t, leavingLooks()) }
