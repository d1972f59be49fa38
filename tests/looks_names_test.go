package tests

import (
	"fmt"
	"testing"

	"loop.example/punch/impl"
)

func namesLooks() []looked {
	return []looked{
		{name: "from where to where, over one another, of one register and of one name", code: `
proto main regs=6
  name whole 0
  line 1
  const 0 1
  name x 0
  line 2
  const 0 "two"
  const 1 3
  name x 1 late end
  line 3
late:
  line 4
end:
  line 5
  drop 0
  line 6
  ret
`, want: `
line 0.0 1 => 0: 0@1
line 0.0 2 => 0: 0@2 whole=1 x=1
line 0.0 3 => 0: 0@3 whole=two x=two
line 0.0 4 => 0: 0@4 whole=two x=two x=3
line 0.0 5 => 0: 0@5 whole=two x=two
line 0.0 6 => 0: 0@6
`},
		{name: "the order is that of the proto", code: `
proto main
  name c 2
  name a 0
  name b 1
  name a 2
  name C 2
  const 0 10
  const 1 11
  const 2 12
  line 1
  drop 1
  line 2
  ret
`, want: `
line 0.0 1 => 0: 0@1 c=12 a=10 b=11 a=12 C=12
line 0.0 2 => 0: 0@2 c=12 a=10 a=12 C=12
`},
		{name: "values of each type", code: `
proto main
  name v 0
  name nothing 7
  const 0 nil
  line 1
  const 0 true
  line 2
  const 0 false
  line 3
  const 0 -5
  line 4
  const 0 1.5
  line 5
  const 0 0.0
  line 6
  binary 0 div 0 0
  line 7
  const 0 "a b"
  line 8
  const 0 ""
  line 9
  table 0
  line 10
  fn 0 f
  line 11
  let 0 task ~r0
  line 12
  const 0 print
  line 13
  ret
proto f
  ret
`, want: `
line 0.0 1 => 0: 0@1 v=nil
line 0.0 2 => 0: 0@2 v=true
line 0.0 3 => 0: 0@3 v=false
line 0.0 4 => 0: 0@4 v=-5
line 0.0 5 => 0: 0@5 v=3p-1
line 0.0 6 => 0: 0@6 v=0p0
line 0.0 7 => 0: 0@7 v=nan
line 0.0 8 => 0: 0@8 v="a b"
line 0.0 9 => 0: 0@9 v=""
line 0.0 10 => 0: 0@10 v=table
line 0.0 11 => 0: 0@11 v=fn
line 0.0 12 => 0: 0@12 v=task
line 0.0 13 => 0: 0@13 v=builtin
`},
		{name: "a register that holds nothing, a value, a box, a list and nothing", code: `
proto main
  name r 0
  line 1
  table 0
  line 2
  box 0 ~0
  line 3
  const 1 nil
  box 0 1
  line 4
  list 0
  line 5
  add 0 1
  line 6
  drop 0
  line 7
  ret
`, want: `
line 0.0 1 => 0: 0@1
line 0.0 2 => 0: 0@2 r=table
line 0.0 3 => 0: 0@3 r=table
line 0.0 4 => 0: 0@4 r=nil
line 0.0 5 => 0: 0@5
line 0.0 6 => 0: 0@6
line 0.0 7 => 0: 0@7
`},
		{name: "a box that another fn puts into", code: `
proto main
  const 0 "first"
  box 0 ~0
  name shared 0
  fn 1 put
  line 1
  do r1 "second"
  line 2
  const 2 "third"
  put 0 ~2
  line 3
  ret
proto put params=1 ups=l0
  name v 0
  line 10
  upput 0 0
  line 11
  box 0 ~0
  line 12
  ret
`, want: `
line 0.0 1 => 0: 0@1 shared=first
call 0.1 0 put => 0: 1@0 v=second | 0@1 shared=first
line 0.1 10 => 0: 1@10 v=second | 0@1 shared=first
line 0.1 11 => 0: 1@11 v=second | 0@1 shared=second
line 0.1 12 => 0: 1@12 v=second | 0@1 shared=second
back 0.1 0 => 0: 1@0 v=second | 0@1 shared=second
line 0.0 2 => 0: 0@2 shared=second
line 0.0 3 => 0: 0@3 shared=third
`},
		{name: "one box in two calls", code: `
proto main
  const 0 1
  box 0 ~0
  name x 0
  fn 1 grow
  at 5
  do r1 2
  ret
proto grow params=1 ups=l0
  name by 0
  upput 0 0
  line 10
  fn 1 again
  do r1 0
  line 11
  ret
proto again params=1 ups=u0
  name none 0
  upput 0 0
  line 20
  ret
`, want: `
call 0.1 0 grow => 0: 1@0 by=2 | 0@5 x=1
line 0.1 10 => 0: 1@10 by=2 | 0@5 x=2
call 0.2 0 again => 0: 2@0 none=0 | 1@10 by=2 | 0@5 x=2
line 0.2 20 => 0: 2@20 none=0 | 1@10 by=2 | 0@5 x=0
back 0.2 0 => 0: 2@0 none=0 | 1@10 by=2 | 0@5 x=0
line 0.1 11 => 0: 1@11 by=2 | 0@5 x=0
back 0.1 0 => 0: 1@0 by=2 | 0@5 x=0
`},
		{name: "a loop", code: `
proto main
  const 0 1
  const 1 3
  const 2 1
  for 0
  name i 0 round behind
round:
  fortest 0 behind
  line 1
  fornext 0 round
behind:
  line 2
  ret
`, want: `
line 0.0 1 => 0: 0@1 i=1
line 0.0 1 => 0: 0@1 i=2
line 0.0 1 => 0: 0@1 i=3
line 0.0 2 => 0: 0@2
`},
	}
}

func TestNames(t *testing.T) { holdLooks(t, namesLooks()) }

// spanCode has a Named of a register that holds 7 throughout; its records are made at the instructions that are answered.
func spanCode(from, to int) (impl.Code, []int) {
	c := woven(`
proto main
  fn 1 f              # 0
  const 0 7           # 1
  line 1              # 2
  line 2              # 3
  try caught 2        # 4
  list 2              # 5
  call 2 1 ~2         # 6: the records of the call of f
  throw 0             # 7: never done
caught:
  drop 2              # 8
  drop 3              # 9
  line 3              # 10
  throw 0             # 11
proto f
  line 5
  raise "x"
`)
	// The text's own Named alone is looked at.
	c.Protos[0].Named = []impl.Named{{Name: "x", Reg: 0, From: from, To: to}}
	return c, []int{2, 3, 6, 6, 6, 6, 8, 10, 11}
}

// A Named holds at the instructions from its From up to below its To, wherever these are.
func TestSpansOfNames(t *testing.T) {
	plain, _ := spanCode(0, 0)
	n := len(plain.Protos[0].Ins)
	for from := range n + 1 {
		for to := from; to <= n; to++ {
			c, stands := spanCode(from, to)
			if got := len(impl.RunCode(c, plenty()).Recs); got != len(stands) {
				t.Fatalf("%d records: %v\n%s", got, impl.CheckCode(c), looksText(c, plenty()))
			}
			for k, at := range stands {
				got := impl.LookCode(c, plenty(), k)
				text := got.Calls[len(got.Calls)-1]
				want := "[]"
				if from <= at && at < to {
					want = "[{x 7}]"
				}
				if fmt.Sprint(text.Vars) != want {
					t.Errorf("from %d to %d, record %d at %d: %v, want %s", from, to, k, at, text.Vars, want)
				}
			}
		}
	}
}

// The greatest numbers of registers and names.
func TestManyNames(t *testing.T) {
	const last = impl.MaxRegs - 1
	ins := []impl.Ins{do(impl.IConst, last, 0), do(impl.ILine, 1), do(impl.IThrow, last)}
	p := impl.Proto{Regs: impl.MaxRegs, Consts: []impl.Value{intOf(7)}, Ins: ins}
	for i := range impl.MaxConsts {
		p.Named = append(p.Named, impl.Named{Name: fmt.Sprint("n", i), Reg: last - i%2, To: 3})
	}
	for k := range 2 {
		got := impl.LookCode(codeOf(p), plenty(), k)
		if !got.Ok || len(got.Calls) != 1 || len(got.Calls[0].Vars) != impl.MaxConsts/2 {
			t.Fatalf("record %d: %.500s", k, viewText(got))
		}
		for i, x := range got.Calls[0].Vars {
			if want := (impl.Shown{Name: fmt.Sprint("n", 2*i), Text: "7"}); x != want {
				t.Errorf("record %d: %v, want %v", k, x, want)
			}
		}
	}
	p.Named = append(p.Named, impl.Named{Name: "x", Reg: last, To: 3})
	if got := impl.LookCode(codeOf(p), plenty(), 0); viewText(got) != "none" {
		t.Errorf("one name too many: %s", viewText(got))
	}
}
