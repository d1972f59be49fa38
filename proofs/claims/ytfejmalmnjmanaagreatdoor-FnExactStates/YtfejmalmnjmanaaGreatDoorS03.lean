import Derived.Test.YtfejmalmnjmanaaGreatDoorS02
import Derived.Laws.FloatArith
import Derived.Deep.RegionWith
import Derived.Deep.QuietTactic
import Derived.BigQuiet
set_option linter.unusedVariables false
set_option linter.unusedSimpArgs false
set_option maxRecDepth 20000
set_option maxHeartbeats 8000000
namespace Go.Proofs.YtfejmalmnjmanaaGreatDoor
open Go.RowKit
theorem head_any (b off len cap p:Nat) (f:FC) (w:World) (hpl:p<len) (hlen:len≤1048576) (hc:Cell9 w b (off+p*9) f) (ok:f.d.ok) :
  Calls Tryz.prog 60 #[.agg #[.slice (some ⟨b,off,none⟩) len cap],.int .i64 p] w fun e w'=>e=.returned (.bool (headB p f.d))∧Below w.heap.size w w':=by
 obtain ⟨c0,c1,c2,c3,c4,c5,c6,c7,c8⟩:=hc.later (bw1 w (CO (.slice (some ⟨b,off,none⟩) len cap)))
 obtain ⟨hn,lu,lc,li,ln,_,_⟩:=ok
 unfold maxLen at hn
 clear hc
 have hp0:((p:Int) > 0)=¬ (p=0):=by simp;omega
 cases h1:inR f.d.line 0 100000
 ·go_enter Tryz.func60,Tryz.ntmps60
  go_wp2_with (go_at_call 64;refine (in_any _ _ _ _).mono ?_;rintro e w' ⟨rfl,rfl⟩)
  all_goals
   go_ret
   refine ⟨?_,by exact bw2 _ _ _⟩
   simp_all [headB]
 ·cases h2:inR f.d.regs 0 250
  ·go_enter Tryz.func60,Tryz.ntmps60
   go_wp2_with (go_at_call 64;refine (in_any _ _ _ _).mono ?_;rintro e w' ⟨rfl,rfl⟩)
   all_goals
    go_ret
    refine ⟨?_,by exact bw2 _ _ _⟩
    simp_all [headB]
  ·have hr:0≤f.d.regs∧f.d.regs≤250:=by simpa [inR] using h2
   obtain ⟨hr0,hr1⟩:=hr
   go_enter Tryz.func60,Tryz.ntmps60
   go_wp2_with (go_at_call 64;refine (in_any _ _ _ _).mono ?_;rintro e w' ⟨rfl,rfl⟩)
   all_goals
    go_ret
    refine ⟨?_,by exact bw2 _ _ _⟩
    simp_all [headB]
    try (intros;omega)
end Go.Proofs.YtfejmalmnjmanaaGreatDoor
namespace Go.Proofs.YtfejmalmnjmanaaGreatDoor.Fl
open Go
def Can (M L:Nat):Prop:=M<9007199254740992∧(0<L→4503599627370496≤M)∧L≤2045
def wd (s:Bool) (M L:Nat):Nat:=Ieee.double.word s (L*4503599627370496+M)
theorem read_wd (s:Bool) (M L:Nat) (h:Can M L):Ieee.double.read (wd s M L)=.number s M (-1074+L):=by
 obtain ⟨h1,h2,h3⟩:=h
 have e1:Ieee.double.signWeight=9223372036854775808:=by decide
 have e2:Ieee.double.binade=4503599627370496:=by decide
 have e3:Ieee.double.infRung=9218868437227405312:=by decide
 have e4:Ieee.double.leastPlace=-1074:=by decide
 unfold wd Ieee.Format.read Ieee.Format.word
 rw[e1,e2,e3,e4]
 have hs:((if s=true then 9223372036854775808+(L*4503599627370496+M) else L*4503599627370496+M) / 9223372036854775808 % 2==1)=s:=by
  cases s <;> simp <;> omega
 have hr:(if s=true then 9223372036854775808+(L*4503599627370496+M) else L*4503599627370496+M) % 9223372036854775808=L*4503599627370496+M:=by
  cases s <;> simp <;> omega
 simp only[hs,hr]
 by_cases hl:L*4503599627370496+M<4503599627370496
 ·rw[if_pos hl]
  have:L=0:=by omega
  subst this;simp
 ·rw[if_neg hl,if_pos (by omega)]
  have hq:4503599627370496+(L*4503599627370496+M) % 4503599627370496=M:=by omega
  have hp:(L*4503599627370496+M) / 4503599627370496-1=L:=by omega
  rw[hq,hp]
theorem read_cases (x:Nat) (hx:x<18446744073709551616) :
  (∃ s M L,Can M L∧x=wd s M L∧Ieee.double.read x=.number s M (-1074+L))∨(∃ s,Ieee.double.read x=.infinity s)∨(∃ s t,Ieee.double.read x=.nan s t):=by
 have e1:Ieee.double.signWeight=9223372036854775808:=by decide
 have e2:Ieee.double.binade=4503599627370496:=by decide
 have e3:Ieee.double.infRung=9218868437227405312:=by decide
 by_cases h:x % 9223372036854775808<9218868437227405312
 ·refine .inl ?_
  obtain ⟨s,hs⟩:∃ s:Bool,x=(if s then 9223372036854775808+x % 9223372036854775808 else x % 9223372036854775808):=by
   by_cases hb:x<9223372036854775808
   ·exact ⟨false,by simp;omega⟩
   ·exact ⟨true,by simp;omega⟩
  by_cases hl:x % 9223372036854775808<4503599627370496
  ·have hc:Can (x % 9223372036854775808) 0:=⟨by omega,by omega,by omega⟩
   have hw:x=wd s (x % 9223372036854775808) 0:=by
    unfold wd Ieee.Format.word;rw[e1];cases s <;> simp at hs ⊢ <;> omega
   have hr:=read_wd s _ 0 hc
   rw[←hw] at hr
   exact ⟨s,_,0,hc,hw,hr⟩
  ·let M:=4503599627370496+x % 9223372036854775808 % 4503599627370496
   let L:=x % 9223372036854775808 / 4503599627370496-1
   have hc:Can M L:=⟨by omega,by omega,by omega⟩
   have hw:x=wd s M L:=by
    unfold wd Ieee.Format.word;rw[e1];cases s <;> simp at hs ⊢ <;> omega
   exact ⟨s,M,L,hc,hw,by rw[hw];exact read_wd s M L hc⟩
 ·unfold Ieee.Format.read
  rw[e1,e2,e3]
  dsimp only
  rw[if_neg (by omega),if_neg h]
  by_cases hi:x % 9223372036854775808=9218868437227405312
  ·rw[if_pos hi];exact .inr (.inl ⟨_,rfl⟩)
  ·rw[if_neg hi];exact .inr (.inr ⟨_,_,rfl⟩)
def V (s:Bool) (M L:Nat):Int:=if s then -((M*2 ^ L:Nat):Int) else ((M*2 ^ L:Nat):Int)
end Go.Proofs.YtfejmalmnjmanaaGreatDoor.Fl
namespace Go.Proofs.YtfejmalmnjmanaaGreatDoor
open Go.RowKit
theorem fz_two (f:Nat) (hf:f<18446744073709551616) (h:fz f=true):f=0∨f=9223372036854775808:=by
 have h':FloatKind.f64.format.order f 0=some .eq:=by simpa [fz] using h
 obtain ⟨s,e,hr⟩:=order_self f h'
 rcases Fl.read_cases f hf with ⟨t,M,L,hc,hw,hm⟩|⟨t,hm⟩|⟨t,u,hm⟩
 ·have hr':Ieee.double.read f=.number s 0 e:=hr
  rw[hm] at hr'
  simp only[Ieee.Datum.number.injEq] at hr'
  obtain ⟨_,h0,_⟩:=hr'
  subst h0
  have hL:L=0:=by
   have:=hc.2.1
   omega
  subst hL
  cases t
  ·left;rw[hw];decide
  ·right;rw[hw];decide
 ·have hr':Ieee.double.read f=.number s 0 e:=hr
  rw[hm] at hr';cases hr'
 ·have hr':Ieee.double.read f=.number s 0 e:=hr
  rw[hm] at hr';cases hr'
theorem vok_fz {v:VD} (h:vok v.k v.n v.f v.s v.r=true) (h3:¬ v.k=3):fz v.f=true:=by
 unfold vok at h
 repeat' split at h
 all_goals simp_all [zr]
theorem quo_pos:floatBits .quo .f64 4607182418800017408 0=some 9218868437227405312:=by decide +kernel
theorem quo_neg:floatBits .quo .f64 4607182418800017408 9223372036854775808=some 18442240474082181120:=by decide +kernel
theorem const_any (v:VD) (w:World) (ok:v.ok) :
  Calls Tryz.prog 61 #[VVd v] w fun e w'=>e=.returned (.bool (constB v))∧Below w.heap.size w w':=by
 obtain ⟨k,n,f,s,r⟩:=v
 obtain ⟨okf,oks⟩:=ok
 show Calls Tryz.prog 61 #[VV k n f s r] w fun e w'=>e=.returned (.bool (constB ⟨k,n,f,s,r⟩))∧Below w.heap.size w w'
 simp only at okf oks
 cases hv:vok k n f s r
 ·go_enter Tryz.func61,Tryz.ntmps61
  go_wp2_with (go_at_call 97;refine (vok_any _ _ _ _ _ _ oks).mono ?_;rw[hv];rintro e w' ⟨rfl,hb'⟩;obtain ⟨hb,c0,c1,c2,c3,c4⟩:=box5 hb';clear hb')
  go_ret
  exact ⟨by simp[constB,hv],hb⟩
 ·by_cases h5:k=5∨k=6∨k=7
  ·rcases h5 with rfl|rfl|rfl
   all_goals
    go_enter Tryz.func61,Tryz.ntmps61
    go_wp2_with (go_at_call 97;refine (vok_any _ _ _ _ _ _ oks).mono ?_;rw[hv];rintro e w' ⟨rfl,hb'⟩;obtain ⟨hb,c0,c1,c2,c3,c4⟩:=box5 hb';clear hb')
    go_ret
    exact ⟨by simp[constB],hb⟩
  ·have h5a:¬ k=5:=fun h=>h5 (.inl h)
   have h5b:¬ k=6:=fun h=>h5 (.inr (.inl h))
   have h5c:¬ k=7:=fun h=>h5 (.inr (.inr h))
   clear h5
   have b5:(k==5)=false:=by simpa using h5a
   have b6:(k==6)=false:=by simpa using h5b
   have b7:(k==7)=false:=by simpa using h5c
   by_cases h3:k=3
   ·subst h3
    go_enter Tryz.func61,Tryz.ntmps61
    go_wp2_with (go_at_call 97;refine (vok_any _ _ _ _ _ _ oks).mono ?_;rw[hv];rintro e w' ⟨rfl,hb'⟩;obtain ⟨hb,c0,c1,c2,c3,c4⟩:=box5 hb';clear hb')
    go_ret
    exact ⟨by simp[constB,nanB,hv],hb⟩
   ·have b3:(k != 3)=true:=by simpa using h3
    rcases fz_two f okf (vok_fz (v:=⟨k,n,f,s,r⟩) hv h3) with rfl|rfl
    ·have hr:∀ w:World,(binOp .quo 119 (.float .f64 4607182418800017408) (.float .f64 0)).run Tryz.prog w=.ok (.float .f64 9218868437227405312) w:=fun w=>run_float_arith w .quo 119 .f64 _ _ _ quo_pos
     have o1:(FloatKind.f64.format.order 0 0==some .eq)=true:=by decide +kernel
     have o2:FloatKind.f64.format.order 9218868437227405312 0=some .gt:=by decide +kernel
     go_enter Tryz.func61,Tryz.ntmps61
     go_wp2_with (go_at_call 97;refine (vok_any _ _ _ _ _ _ oks).mono ?_;rw[hv];rintro e w' ⟨rfl,hb'⟩;obtain ⟨hb,c0,c1,c2,c3,c4⟩:=box5 hb';clear hb')
     go_ret
     exact ⟨by simp[constB,hv,h3,h5a,h5b,h5c],hb⟩
    ·have hr:∀ w:World,(binOp .quo 119 (.float .f64 4607182418800017408) (.float .f64 9223372036854775808)).run Tryz.prog w=.ok (.float .f64 18442240474082181120) w:=fun w=>run_float_arith w .quo 119 .f64 _ _ _ quo_neg
     have o1:(FloatKind.f64.format.order 9223372036854775808 0==some .eq)=true:=by decide +kernel
     have o2:FloatKind.f64.format.order 18442240474082181120 0=some .lt:=by decide +kernel
     go_enter Tryz.func61,Tryz.ntmps61
     go_wp2_with (go_at_call 97;refine (vok_any _ _ _ _ _ _ oks).mono ?_;rw[hv];rintro e w' ⟨rfl,hb'⟩;obtain ⟨hb,c0,c1,c2,c3,c4⟩:=box5 hb';clear hb')
     go_ret
     exact ⟨by simp[constB,hv,h3,h5a,h5b,h5c],hb⟩
theorem ret_bo {a b:Bool} (h:a=b):Ending.returned (.bool a)=.returned (.bool b):=by rw[h]
abbrev PV (f:FC):Value:=.agg #[.string f.d.name,.int .i64 f.d.line,.int .i64 f.d.params,.bool f.d.rest,.int .i64 f.d.regs,.slice f.au f.d.ups.length f.cu,.slice f.ac f.d.consts.length f.cc,.slice f.ai f.d.ins.length f.ci,.slice f.an f.d.named.length f.cn]
set_option maxRecDepth 100000 in
theorem named_any (f:FC) (i:Nat) (n:ND) (w:World) (hn:f.d.named[i]?=some n) (hl:SlA w 4 ND.cells f.an f.d.named) (ok:f.d.ok) (hr0:0≤f.d.regs) (hr1:f.d.regs≤250) :
  Calls Tryz.prog 62 #[PV f,.int .i64 i] w fun e w'=>e=.returned (.bool (namedB f.d i n))∧Below w.heap.size w w':=by
 obtain ⟨b,off,ha,hb,hc⟩:=hl i n hn
 obtain ⟨d,au,cu,ac,cc,ai,ci,an,cn⟩:=f
 simp only at ha hn ok hr0 hr1 hc
 subst ha
 have d0:w.cell? ⟨b,off+i*4,none⟩=some (.string n.s):=hc 0 _ rfl
 have d1:w.cell? ⟨b,off+i*4+1,none⟩=some (.int .i64 n.reg):=hc 1 _ rfl
 have d2:w.cell? ⟨b,off+i*4+2,none⟩=some (.int .i64 n.fr):=hc 2 _ rfl
 have d3:w.cell? ⟨b,off+i*4+3,none⟩=some (.int .i64 n.to):=hc 3 _ rfl
 have hx:=bw1 w (PO ⟨d,au,cu,ac,cc,ai,ci,some ⟨b,off,none⟩,cn⟩)
 have c0:=cell_later hx d0
 have c1:=cell_later hx d1
 have c2:=cell_later hx d2
 have c3:=cell_later hx d3
 clear d0 d1 d2 d3 hx
 have hil:i<d.named.length:=(List.getElem?_eq_some_iff.1 hn).1
 have hsz:n.s.size≤maxLen:=ok.n n (List.mem_of_getElem? hn)
 obtain ⟨oz,lu,lc,li,ln,ox,oy⟩:=ok
 unfold maxLen at hsz
 clear hc hb hn hl ox oy oz
 go_enter Tryz.func62,Tryz.ntmps62
 go_wp2_with (go_at_call 64;refine (in_any _ _ _ _).mono ?_;rintro e w' ⟨rfl,rfl⟩)
 all_goals
  go_ret
  refine ⟨ret_bo ?_,by exact bw2 _ _ _⟩
  clear c0 c1 c2 c3 hil hsz lu lc li ln hr0 hr1
  unfold namedB
  first
   | (simp[*];done)
   | (simp[*];intros;omega)
theorem op_cases {op:Int} (h0:1≤op) (h1:op≤42):op=1∨op=2∨op=3∨op=4∨op=5∨op=6∨op=7∨op=8∨op=9∨op=10∨op=11∨op=12∨op=13∨op=14∨op=15∨op=16∨op=17∨op=18∨op=19∨op=20∨op=21∨op=22∨op=23∨op=24∨op=25∨op=26∨op=27∨op=28∨op=29∨op=30∨op=31∨op=32∨op=33∨op=34∨op=35∨op=36∨op=37∨op=38∨op=39∨op=40∨op=41∨op=42:=by omega
abbrev RO (op:Int):Obj:=.cells #[.int .i64 (rl op 0),.int .i64 (rl op 1),.int .i64 (rl op 2),.int .i64 (rl op 3)] 3
theorem roles_in (op:Int) (w:World) (h0:1≤op) (h1:op≤42) :
  Calls Tryz.prog 66 #[.int .i64 op] w fun e w'=>e=.returned (.slice (some ⟨w.heap.size,0,none⟩) 4 4)∧w'=w.alloc (RO op):=by
 have hop:=op_cases h0 h1
 clear h0 h1
 rcases hop with rfl|rfl|rfl|rfl|rfl|rfl|rfl|rfl|rfl|rfl|rfl|rfl|rfl|rfl|rfl|rfl|rfl|rfl|rfl|rfl|rfl|rfl|rfl|rfl|rfl|rfl|rfl|rfl|rfl|rfl|rfl|rfl|rfl|rfl|rfl|rfl|rfl|rfl|rfl|rfl|rfl|rfl
 all_goals
  go_enter Tryz.func66,Tryz.ntmps66
  go_wp2
  go_ret
  exact ⟨rfl,rfl⟩
theorem roles_out (op:Int) (w:World) (h:¬ (1≤op∧op≤42)) :
  Calls Tryz.prog 66 #[.int .i64 op] w fun e w'=>e=.returned (.slice none 0 0)∧w'=w:=by
 go_enter Tryz.func66,Tryz.ntmps66
 go_wp2
 all_goals first
  | (exfalso;omega)
  | (go_ret
     exact ⟨rfl,rfl⟩)
theorem fields_any (n:ID) (w:World) :
  Calls Tryz.prog 67 #[IV n] w fun e w'=>e=.returned (.slice (some ⟨w.heap.size+1,0,none⟩) 4 4)∧w'=(w.alloc (.cells #[.int .i64 n.op,.int .i64 n.a,.int .i64 n.b,.int .i64 n.c,.int .i64 n.d] 77)).alloc (.cells #[.int .i64 n.a,.int .i64 n.b,.int .i64 n.c,.int .i64 n.d] 3):=by
 go_enter Tryz.func67,Tryz.ntmps67
 go_wp2
 go_ret
 exact ⟨by first|rfl|simp,rfl⟩
def fv (n:ID) (k:Nat):Int:=[n.a,n.b,n.c,n.d].getD k 0
theorem fields_all {np:Nat}{f:FD}{n:ID} (h0:1≤n.op) (h1:n.op≤42) (h:∀ j,j<4→fitsB np f (rl n.op j) (fv n j)=true):fieldsB np f n=true:=by
 have a0:=h 0 (by omega)
 have a1:=h 1 (by omega)
 have a2:=h 2 (by omega)
 have a3:=h 3 (by omega)
 simp only[fv,List.getD_cons_zero,List.getD_cons_succ] at a0 a1 a2 a3
 simp[fieldsB,inR,h0,h1,a0,a1,a2,a3]
theorem fields_not {np:Nat}{f:FD}{n:ID}{j:Nat} (hj:j<4) (h:fitsB np f (rl n.op j) (fv n j)=false):fieldsB np f n=false:=by
 match j,hj with
 | 0,_=>simp only[fv,List.getD_cons_zero] at h;simp[fieldsB,h]
 | 1,_=>simp only[fv,List.getD_cons_zero,List.getD_cons_succ] at h;simp[fieldsB,h]
 | 2,_=>simp only[fv,List.getD_cons_zero,List.getD_cons_succ] at h;simp[fieldsB,h]
 | 3,_=>simp only[fv,List.getD_cons_zero,List.getD_cons_succ] at h;simp[fieldsB,h]
abbrev IO5 (n:ID):Obj:=.cells #[.int .i64 n.op,.int .i64 n.a,.int .i64 n.b,.int .i64 n.c,.int .i64 n.d] 77
abbrev IO4 (n:ID):Obj:=.cells #[.int .i64 n.a,.int .i64 n.b,.int .i64 n.c,.int .i64 n.d] 3
theorem four_cell {w:World}{g:Nat}{a b c d:Int}{t:TypeId} (h:w.heap[g]?=some (.cells #[.int .i64 a,.int .i64 b,.int .i64 c,.int .i64 d] t)) {m:Nat} (hm:m<4):w.cell? ⟨g,m,none⟩=some (.int .i64 ([a,b,c,d].getD m 0)):=by
 rw[qAz h]
 match m,hm with
 | 0,_=>rfl
 | 1,_=>rfl
 | 2,_=>rfl
 | 3,_=>rfl
theorem rl_four (op:Int) {m:Nat} (hm:m<4):[rl op 0,rl op 1,rl op 2,rl op 3].getD m 0=rl op m:=by
 match m,hm with
 | 0,_=>rfl
 | 1,_=>rfl
 | 2,_=>rfl
 | 3,_=>rfl
theorem qNz {w:World}{k:Nat} (h:w.heap.size=k) (o:Obj):(w.alloc o).heap[k]?=some o:=by subst h;exact qKz w o
theorem qJz {w w1:World} (h:Below w.heap.size w w1) (o:Obj):Below w.heap.size w (w1.alloc o):=h.alloc h.size o
theorem insok_any (b off len cap p:Nat) (f:FC) (i:Nat) (n:ID) (w:World) (hpl:p<len) (hlen:len≤1048576) (hc:Cell9 w b (off+p*9) f) (hi:f.d.ins[i]?=some n) (hl:SlA w 5 ID.cells f.ai f.d.ins) (ok:f.d.ok) (hr0:0≤f.d.regs) (hr1:f.d.regs≤250) :
  Calls Tryz.prog 63 #[.agg #[.slice (some ⟨b,off,none⟩) len cap],.int .i64 p,.int .i64 i] w fun e w'=>e=.returned (.bool (insB len f.d i n))∧Below w.heap.size w w':=by
 obtain ⟨bi,oi,ha,_,hci⟩:=hl i n hi
 have hil:i<f.d.ins.length:=(List.getElem?_eq_some_iff.1 hi).1
 have li:=ok.li
 have hx:=bw1 w (CO (.slice (some ⟨b,off,none⟩) len cap))
 have c7:=cell_later hx hc.c7
 rw[ha] at c7
 have d0:=cell_later hx (show w.cell? ⟨bi,oi+i*5,none⟩=some (.int .i64 n.op) from hci 0 _ rfl)
 have d1:=cell_later hx (hci 1 _ rfl)
 have d2:=cell_later hx (hci 2 _ rfl)
 have d3:=cell_later hx (hci 3 _ rfl)
 have d4:=cell_later hx (hci 4 _ rfl)
 have HC:Hid (Cell9 w b (off+p*9) f):=hc
 have HO:Hid f.d.ok:=ok
 have HA:Hid (f.ai=some ⟨bi,oi,none⟩):=ha
 clear hx hci hi hl hc ok ha
 by_cases hop:1≤n.op∧n.op≤42
 ·obtain ⟨h0,h1⟩:=hop
  go_enter Tryz.func63,Tryz.ntmps63
  go_wp2_with (first|(go_at_call 66;refine (roles_in _ _ h0 h1).mono ?_;rintro e w' ⟨rfl,rfl⟩)|(go_at_call 67;refine (fields_any n _).mono ?_;rintro e w' ⟨rfl,rfl⟩))
  clear d0 d1 d2 d3 d4 c7
  go_loopw [30] (fun i wr=>∃ m:Nat,m≤4∧i=.int .i64 m∧Below w.heap.size w wr∧Hid (wr.heap[w.heap.size]?=some (CO (.slice (some ⟨b,off,none⟩) len cap)))∧Hid (wr.heap[w.heap.size+1]?=some (IO5 n))∧Hid (wr.heap[w.heap.size+1+1]?=some (RO n.op))∧Hid (wr.heap[w.heap.size+1+1+1+1]?=some (IO4 n))∧Hid (∀ j,j<m→fitsB len f.d (rl n.op j) (fv n j)=true)) (fun i _=>4-(intOf i).toNat)
  case atStart =>
   refine ⟨0,by omega,rfl,qJz (qJz (qJz (bw2 _ _ _) _) _) _,?_,?_,?_,?_,fun j hj=>absurd hj (Nat.not_lt_zero _)⟩
   ·exact qIz (qIz (qIz (qIz (qKz _ _) _) _) _) _
   ·exact qIz (qIz (qIz (qNz (by simp) _) _) _) _
   ·exact qIz (qIz (qNz (by simp) _) _) _
   ·exact qNz (by simp) _
  case round =>
   obtain ⟨m,hm,rfl,hB,B0,B1,B2,B4,HF⟩:=hrel
   have a0:wr.cell? ⟨w.heap.size,0,none⟩=some (.slice (some ⟨b,off,none⟩) len cap):=by rw[qAz B0.out];rfl
   by_cases k1:m<4
   ·have r0:wr.cell? ⟨w.heap.size+1+1,m,none⟩=some (.int .i64 (rl n.op m)):=by rw[four_cell B2.out k1,rl_four n.op k1]
    have f0:wr.cell? ⟨w.heap.size+1+1+1+1,m,none⟩=some (.int .i64 (fv n m)):=four_cell B4.out k1
    cases hfit:fitsB len f.d (rl n.op m) (fv n m)
    ·have HN:Hid (fieldsB len f.d n=false):=fields_not k1 hfit
     go_wp2_with fail
     go_region_with (go_at_call 98;refine (fits_any b off len cap p f _ _ _ hpl hlen (HC.out.later (hB.trans ((Below.refl _ _).drew))) hr0 hr1 HO.out).mono ?_;rw[hfit];rintro e w1 ⟨rfl,hx⟩)
     all_goals
      replace hx:=und1 hx
      replace hB:=hB.trans (hx.mono hB.size)
      clear hx
      go_wp2_with fail
      go_ret
      exact ⟨ret_bo (by simp[insB,HN.out]),hB⟩
    ·have HF1:Hid (∀ j,j<m+1→fitsB len f.d (rl n.op j) (fv n j)=true):=by
      intro j hj
      by_cases hjm:j=m
      ·subst hjm;exact hfit
      ·exact HF.out j (by omega)
     clear HF
     go_wp2_with fail
     go_region_with (go_at_call 98;refine (fits_any b off len cap p f _ _ _ hpl hlen (HC.out.later (hB.trans ((Below.refl _ _).drew))) hr0 hr1 HO.out).mono ?_;rw[hfit];rintro e w1 ⟨rfl,hx⟩)
     all_goals
      replace hx:=und1 hx
      replace hB:=hB.trans (hx.mono hB.size)
      replace B0:=qBz hx B0.out;replace B1:=qBz hx B1.out;replace B2:=qBz hx B2.out;replace B4:=qBz hx B4.out
      replace B0:Hid _:=B0;replace B1:Hid _:=B1;replace B2:Hid _:=B2;replace B4:Hid _:=B4
      clear hx a0 r0 f0
      go_wp2_with fail
      go_roundw
      case rel=>exact ⟨m+1,by omega,by go_num,hB,B0,B1,B2,B4,HF1⟩
      case measure=>simp[intOf];omega
   ·have hm4:m=4:=by omega
    subst hm4
    have hall:fieldsB len f.d n=true:=fields_all h0 h1 HF.out
    have c7:=cell_later hB HC.out.c7
    rw[HA.out] at c7
    have n0:wr.cell? ⟨w.heap.size+1,0,none⟩=some (.int .i64 n.op):=by rw[qAz B1.out];rfl
    clear HF B0 B1 B2 B4
    by_cases he:i+1=f.d.ins.length
    ·have he':((i:Int)==(f.d.ins.length:Int)-1)=true:=by simp;omega
     cases e1:(n.op==19)
     ·cases e2:(n.op==29)
      ·go_wp2_with fail
       go_ret
       exact ⟨ret_bo (by simp[insB,hall,he,endsB,e1,e2]),hB⟩
      ·go_wp2_with fail
       go_ret
       exact ⟨ret_bo (by simp[insB,hall,he,endsB,e1,e2]),hB⟩
     ·go_wp2_with fail
      go_ret
      exact ⟨ret_bo (by simp[insB,hall,he,endsB,e1]),hB⟩
    ·have he':((i:Int)==(f.d.ins.length:Int)-1)=false:=by simp;omega
     go_wp2_with fail
     go_ret
     exact ⟨ret_bo (by simp[insB,hall,he]),hB⟩
 ·go_enter Tryz.func63,Tryz.ntmps63
  go_wp2_with (go_at_call 66;refine (roles_out _ _ hop).mono ?_;rintro e w' ⟨rfl,rfl⟩)
  go_ret
  refine ⟨ret_bo ?_,by exact bw2 _ _ _⟩
  have:inR n.op 1 42=false:=by simpa [inR] using hop
  simp[insB,fieldsB,this]
theorem in_val {v:Bool} (x lo hi:Int) (w:World) (h:inR x lo hi=v) :
  Calls Tryz.prog 64 #[.int .i64 x,.int .i64 lo,.int .i64 hi] w fun e w'=>e=.returned (.bool v)∧w'=w:=h ▸ in_any x lo hi w
theorem below_dr (B:Nat) (w:World) (n:Nat):Below B w (w.drewN n):=⟨rfl,rfl,rfl,Nat.le_refl _,fun _ _=>rfl⟩
theorem upsB_not {m:FD}{us:List UD}{j:Nat}{u:UD} (hj:us[j]?=some u) (h:upB m u=false):upsB m us=false:=by
 cases hb:upsB m us
 ·rfl
 ·have:=List.all_eq_true.1 hb u (List.mem_of_getElem? hj)
  rw[h] at this;cases this
theorem upsB_all {m:FD}{us:List UD} (h:∀ (j:Nat) (u:UD),us[j]?=some u→upB m u=true):upsB m us=true:=by
 refine List.all_eq_true.2 fun u hu=>?_
 obtain ⟨j,hj⟩:=List.getElem?_of_mem hu
 exact h j u hj
structure Lat (w:World) where
 wd:World
 below:Below w.heap.size w wd
theorem lat_some (w:World):Nonempty (Lat w):=⟨⟨w,Below.refl _ _⟩⟩
theorem qHz {w:World}{a:Addr}{v:Value} (h:w.cell? a=some v) (x:Lat w):x.wd.cell? a=some v:=cell_later x.below h
theorem lat_calls {P:Program}{f:FuncId}{args:Array Value}{w:World}{x:Lat w}{v:Value}
  (h:Calls P f args x.wd fun e w'=>e=.returned v∧Below x.wd.heap.size x.wd w'):Calls P f args x.wd fun e w'=>e=.returned v∧∃ y:Lat w,w'=y.wd :=
 h.mono fun _ w' ⟨he,hb⟩=>⟨he,⟨w',x.below.trans (hb.mono x.below.size)⟩,rfl⟩
theorem qOz {P:Program}{id:Nat}{Q:Exit→Act→World→Prop}{a:Act}{w:World}{l:List Oper} (hm:P.follows .mixedOrders=true) (hB:Region.lexB .any l.toArray=true)
  (h:wpQuiet P l.toArray (fun w'=>∃ x:Lat w,w'=x.wd) (fun a'=>∀ w',(∃ x:Lat w,w'=x.wd)→Q .normal a' w') l a):(Code.region id l.toArray true).wp P Q a w :=
 wp_region_quiet (C:=fun w'=>∃ x:Lat w,w'=x.wd) hm hB ⟨⟨w.drew,(Below.refl _ _).drew⟩,rfl⟩ (by simpa using h)
theorem newblk (w:World) (o:Obj):∃ w2,w2=w.alloc o∧Below w.heap.size w w2∧w2.heap[w.heap.size]?=some o∧w2.heap.size=w.heap.size+1:=⟨_,rfl,bw1 _ _,qKz _ _,by simp⟩
theorem upsok_any (b off len cap p g:Nat) (f k:FC) (w:World) (hpl:p<len) (hgl:g<len) (hlen:len≤1048576) (hc:Cell9 w b (off+p*9) f) (hg:Cell9 w b (off+g*9) k) (hl:SlA w 2 UD.cells k.au k.d.ups) (okf:f.d.ok) (okk:k.d.ok) (hr0:0≤f.d.regs) (hr1:f.d.regs≤250) :
  Calls Tryz.prog 33 #[.agg #[.slice (some ⟨b,off,none⟩) len cap],.int .i64 p,.int .i64 g] w fun e w'=>e=.returned (.bool (upsB f.d k.d.ups))∧Below w.heap.size w w':=by
 have hx:=bw1 w (CO (.slice (some ⟨b,off,none⟩) len cap))
 have g5:=cell_later hx hg.c5
 have HC:Hid (Cell9 w b (off+p*9) f):=hc
 have HL:Hid (SlA w 2 UD.cells k.au k.d.ups):=hl
 have lk:=okk.lu
 have lf:=okf.lu
 clear hx hc hg hl okk okf
 obtain ⟨au,hau⟩:∃ au,au=k.au:=⟨_,rfl⟩
 obtain ⟨us,hus⟩:∃ us,us=k.d.ups:=⟨_,rfl⟩
 rw[←hau,← hus] at g5
 rw[←hus] at lk ⊢
 replace HL:Hid (SlA w 2 UD.cells au us):=by rw[hau,hus];exact HL.out
 clear hau hus
 go_enter Tryz.func33,Tryz.ntmps33
 go_wp2_with fail
 clear g5
 go_loopw [16] (fun i wr=>∃ m:Nat,m≤us.length∧i=.int .i64 m∧Below w.heap.size w wr∧Hid (wr.heap[w.heap.size]?=some (CO (.slice (some ⟨b,off,none⟩) len cap)))∧Hid (∀ j u,j<m→us[j]?=some u→upB f.d u=true)) (fun i _=>us.length-(intOf i).toNat)
 case atStart=>exact ⟨0,by omega,rfl,bw1 _ _,qKz _ _,fun j u hj=>absurd hj (Nat.not_lt_zero _)⟩
 case round =>
  obtain ⟨m,hm,rfl,hB,B0,HF⟩:=hrel
  by_cases k1:m<us.length
  ·obtain ⟨u,hu⟩:∃ u,us[m]?=some u:=⟨us[m]'k1,by simp⟩
   obtain ⟨bu,ou,rfl,hbu,hcu⟩:=HL.out m u hu
   have d0:wr.cell? ⟨bu,ou+m*2,none⟩=some (.bool u.l):=cell_later hB (hcu 0 _ rfl)
   have d1:wr.cell? ⟨bu,ou+m*2+1,none⟩=some (.int .i64 u.i):=cell_later hB (hcu 1 _ rfl)
   have HN:Hid (upB f.d u=false→upsB f.d us=false):=upsB_not hu
   have HF1:Hid (upB f.d u=true→∀ j v,j<m+1→us[j]?=some v→upB f.d v=true):=by
    intro ht j v hj hv
    by_cases hjm:j=m
    ·subst hjm;rw[hu] at hv;cases hv;exact ht
    ·exact HF.out j v (by omega) hv
   clear HF hu hcu hbu
   obtain ⟨ul,ui⟩:=u
   simp only at d0 d1 HN HF1
   obtain ⟨w2,hw,hy,hu2,_⟩:=newblk wr (.cells #[.bool ul,.int .i64 ui] 124)
   have u0:w2.cell? ⟨wr.heap.size,0,none⟩=some (.bool ul):=by rw[qAz hu2];rfl
   have u1:w2.cell? ⟨wr.heap.size,1,none⟩=some (.int .i64 ui):=by rw[qAz hu2];rfl
   replace B0:Hid _:=qBz hy B0.out
   have a0:w2.cell? ⟨w.heap.size,0,none⟩=some (.slice (some ⟨b,off,none⟩) len cap):=by rw[qAz B0.out];rfl
   have c4:=cell_later hy (cell_later hB HC.out.c4)
   have c5:=cell_later hy (cell_later hB HC.out.c5)
   have HB:Hid (Below w.heap.size w w2):=hB.trans (hy.mono hB.size)
   clear hu2
   have hw1:IntKind.i64.wrap ((f.d.ups.length:Int)-1)=(f.d.ups.length:Int)-1:=by rw[IntKind.wrap_i64];omega
   have hw2:IntKind.i64.wrap (f.d.regs-1)=f.d.regs-1:=by rw[IntKind.wrap_i64];omega
   cases ul
   ·cases hin:inR ui 0 ((f.d.ups.length:Int)-1)
    ·have HR:Hid (upsB f.d us=false):=HN.out (by simp[upB,hin])
     go_wp2_with fail
     rw[←hw]
     clear hw hy hB d0 d1
     have e0:=qHz u0;have e1:=qHz u1;have e2:=qHz a0;have e4:=qHz c4;have e5:=qHz c5
     haveI:=lat_some w2
     clear u0 u1 a0 c4 c5
     refine qOz (by kernel_rfl) (by kernel_rfl) ?_
     repeat (go_big_quiet_step ((go_at_call 64;exact lat_calls ((in_val _ _ _ _ hin).mono fun _ _ h=>⟨h.1,h.2 ▸ Below.refl _ _⟩))))
     refine wpQuiet_nil ?_
     rintro _ ⟨nq,rfl⟩
     have hz:=HB.out.trans (nq.below.mono HB.out.size)
     go_wp2_with fail
     go_ret
     exact ⟨ret_bo HR.out.symm,hz⟩
    ·have HF2:Hid _:=HF1.out (by simp[upB,hin])
     go_wp2_with fail
     rw[←hw]
     clear hw hy hB d0 d1
     have e0:=qHz u0;have e1:=qHz u1;have e2:=qHz a0;have e4:=qHz c4;have e5:=qHz c5
     haveI:=lat_some w2
     clear u0 u1 a0 c4 c5
     refine qOz (by kernel_rfl) (by kernel_rfl) ?_
     repeat (go_big_quiet_step ((go_at_call 64;exact lat_calls ((in_val _ _ _ _ hin).mono fun _ _ h=>⟨h.1,h.2 ▸ Below.refl _ _⟩))))
     refine wpQuiet_nil ?_
     rintro _ ⟨nq,rfl⟩
     have hz:=HB.out.trans (nq.below.mono HB.out.size)
     replace B0:Hid _:=qBz nq.below B0.out
     clear e0 e1 e2 e4 e5
     go_wp2_with fail
     go_roundw
     case rel=>exact ⟨m+1,by omega,by go_num,hz,B0,HF2⟩
     case measure=>simp[intOf];omega
   ·cases hin:inR ui 0 (f.d.regs-1)
    ·have HR:Hid (upsB f.d us=false):=HN.out (by simp[upB,hin])
     go_wp2_with fail
     rw[←hw]
     clear hw hy hB d0 d1
     have e0:=qHz u0;have e1:=qHz u1;have e2:=qHz a0;have e4:=qHz c4;have e5:=qHz c5
     haveI:=lat_some w2
     clear u0 u1 a0 c4 c5
     refine qOz (by kernel_rfl) (by kernel_rfl) ?_
     repeat (go_big_quiet_step ((go_at_call 64;exact lat_calls ((in_val _ _ _ _ hin).mono fun _ _ h=>⟨h.1,h.2 ▸ Below.refl _ _⟩))))
     refine wpQuiet_nil ?_
     rintro _ ⟨nq,rfl⟩
     have hz:=HB.out.trans (nq.below.mono HB.out.size)
     go_wp2_with fail
     go_ret
     exact ⟨ret_bo HR.out.symm,hz⟩
    ·have HF2:Hid _:=HF1.out (by simp[upB,hin])
     go_wp2_with fail
     rw[←hw]
     clear hw hy hB d0 d1
     have e0:=qHz u0;have e1:=qHz u1;have e2:=qHz a0;have e4:=qHz c4;have e5:=qHz c5
     haveI:=lat_some w2
     clear u0 u1 a0 c4 c5
     refine qOz (by kernel_rfl) (by kernel_rfl) ?_
     repeat (go_big_quiet_step ((go_at_call 64;exact lat_calls ((in_val _ _ _ _ hin).mono fun _ _ h=>⟨h.1,h.2 ▸ Below.refl _ _⟩))))
     refine wpQuiet_nil ?_
     rintro _ ⟨nq,rfl⟩
     have hz:=HB.out.trans (nq.below.mono HB.out.size)
     replace B0:Hid _:=qBz nq.below B0.out
     clear e0 e1 e2 e4 e5
     go_wp2_with fail
     go_roundw
     case rel=>exact ⟨m+1,by omega,by go_num,hz,B0,HF2⟩
     case measure=>simp[intOf];omega
  ·have HR:Hid (upsB f.d us=true):=upsB_all fun j u hu=>HF.out j u (by have:=(List.getElem?_eq_some_iff.1 hu).1;omega) hu
   clear HF
   go_wp2_with fail
   go_ret
   exact ⟨ret_bo HR.out.symm,hB⟩
end Go.Proofs.YtfejmalmnjmanaaGreatDoor
