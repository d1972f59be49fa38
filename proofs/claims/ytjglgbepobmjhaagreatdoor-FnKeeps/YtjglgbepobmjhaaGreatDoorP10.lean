import Derived.Test.YtjglgbepobmjhaaGreatDoorP07
import Derived.Test.YtjglgbepobmjhaaGreatDoorP09
import Derived.LoopN
import Derived.BigRegion
import Derived.BigQuiet
import Derived.Deep.QuietTactic
import Derived.Test.YtjglgbepobmjhaaGreatDoorP04
import Derived.Test.YtjglgbepobmjhaaGreatDoorP02
set_option linter.unusedVariables false
set_option linter.unusedSimpArgs false
set_option maxRecDepth 20000
set_option maxHeartbeats 8000000
namespace Go.Proofs.YtjglgbepobmjhaaGreatDoor
open Go.RowKit
def askedV (r:Nat):List Int:=if r=12∨r=14 then [1] else if r=13∨r=16 then [3] else if r=15 then [2] else if r=17 then [1,1,1] else if r=18 then [1,0] else if r=19 then [1,1] else []
def givenV (r:Nat):List Int:=if r=20 then [1] else if r=21 then [2] else if r=22 then [3] else if r=23 then [0] else if r=18 then [1,1] else []
theorem sl_new (w:World) (ws:List Int) (b:Nat) (hb:w.heap[b]?=some (.cells (ws.map fun z=>Value.int .i64 z).toArray 3)):SlA w 1 intC (some ⟨b,0,none⟩) ws:=by
 intro i x hx
 refine⟨b,0,rfl,blk_lt hb,fun j v hv=>?_⟩
 have hj:j=0:=by
  have:=(List.getElem?_eq_some_iff.1 hv).1
  simp[intC]at this
  omega
 subst hj
 simp[intC]at hv
 subst hv
 rw[blk_cell hb]
 simp[hx]
theorem sl_nil (w:World):SlA w 1 intC none []:=fun i x hx=>by simp at hx
theorem asked_any (r:Nat) (w:World) (hr:r<24) :
  Calls Tryz.prog 214 #[.int .i64 r] w fun e w'=>(∃a c,e=.returned (.slice a (askedV r).length c)∧SlA w' 1 intC a (askedV r)∧(a=none∨a=some ⟨w.heap.size,0,none⟩))∧Below w.heap.size w w':=by
 have hcs:=r_cases hr
 clear hr
 rcases hcs with rfl | rfl | rfl | rfl | rfl | rfl | rfl | rfl | rfl | rfl | rfl | rfl | rfl | rfl | rfl | rfl | rfl | rfl | rfl | rfl | rfl | rfl | rfl | rfl
 all_goals
  go_enter Tryz.func214,Tryz.ntmps214
  go_wp2_with fail
  go_ret
  first
   | exact⟨⟨none,0,rfl,sl_nil _,.inl rfl⟩,Below.refl _ _⟩
   | exact⟨⟨some ⟨w.heap.size,0,none⟩,_,rfl,sl_new _ [1] _ (blk_new _ _),.inr rfl⟩,bw1 _ _⟩
   | exact⟨⟨some ⟨w.heap.size,0,none⟩,_,rfl,sl_new _ [2] _ (blk_new _ _),.inr rfl⟩,bw1 _ _⟩
   | exact⟨⟨some ⟨w.heap.size,0,none⟩,_,rfl,sl_new _ [3] _ (blk_new _ _),.inr rfl⟩,bw1 _ _⟩
   | exact⟨⟨some ⟨w.heap.size,0,none⟩,_,rfl,sl_new _ [1,0] _ (blk_new _ _),.inr rfl⟩,bw1 _ _⟩
   | exact⟨⟨some ⟨w.heap.size,0,none⟩,_,rfl,sl_new _ [1,1] _ (blk_new _ _),.inr rfl⟩,bw1 _ _⟩
   | exact⟨⟨some ⟨w.heap.size,0,none⟩,_,rfl,sl_new _ [1,1,1] _ (blk_new _ _),.inr rfl⟩,bw1 _ _⟩
theorem given_any (r:Nat) (w:World) (hr:r<24) :
  Calls Tryz.prog 150 #[.int .i64 r] w fun e w'=>(∃a c,e=.returned (.slice a (givenV r).length c)∧SlA w' 1 intC a (givenV r)∧(a=none∨a=some ⟨w.heap.size,0,none⟩))∧Below w.heap.size w w':=by
 have hcs:=r_cases hr
 clear hr
 rcases hcs with rfl | rfl | rfl | rfl | rfl | rfl | rfl | rfl | rfl | rfl | rfl | rfl | rfl | rfl | rfl | rfl | rfl | rfl | rfl | rfl | rfl | rfl | rfl | rfl
 all_goals
  go_enter Tryz.func150,Tryz.ntmps150
  go_wp2_with fail
  go_ret
  first
   | exact⟨⟨none,0,rfl,sl_nil _,.inl rfl⟩,Below.refl _ _⟩
   | exact⟨⟨some ⟨w.heap.size,0,none⟩,_,rfl,sl_new _ [0] _ (blk_new _ _),.inr rfl⟩,bw1 _ _⟩
   | exact⟨⟨some ⟨w.heap.size,0,none⟩,_,rfl,sl_new _ [1] _ (blk_new _ _),.inr rfl⟩,bw1 _ _⟩
   | exact⟨⟨some ⟨w.heap.size,0,none⟩,_,rfl,sl_new _ [2] _ (blk_new _ _),.inr rfl⟩,bw1 _ _⟩
   | exact⟨⟨some ⟨w.heap.size,0,none⟩,_,rfl,sl_new _ [3] _ (blk_new _ _),.inr rfl⟩,bw1 _ _⟩
   | exact⟨⟨some ⟨w.heap.size,0,none⟩,_,rfl,sl_new _ [1,1] _ (blk_new _ _),.inr rfl⟩,bw1 _ _⟩
theorem Below.drewN {B:Nat} {w w':World} (h:Below B w w') (n:Nat):Below B w (w'.drewN n):=⟨h.os,h.tape,h.output,h.size,h.block⟩
theorem index_any (a:Option Addr) (len cap:Nat) (xs:List Int) (v:Int) (w:World) (hl:xs.length=len) (hp:SlA w 1 intC a xs) (hlen:len≤1048576) :
  Calls Tryz.prog 310 #[.slice a len cap,.int .i64 v] w fun e w'=>(∃z:Int,e=.returned (.int .i64 z)∧(0≤z↔v∈xs))∧Below w.heap.size w w':=by
 have HP:Hid (SlA w 1 intC a xs):=hp
 have HL:Hid (xs.length=len):=hl
 clear hp hl
 go_enter Tryz.func310,Tryz.ntmps310
 go_wp2_with fail
 go_loopw [8] (fun i wr=>∃m:Nat,m≤len∧i=.int .i64 m∧Below w.heap.size w wr∧Hid (∀(j:Nat) z,j<m→xs[j]?=some z→z≠v)) (fun i _=>len-(intOf i).toNat)
 case atStart=>exact⟨0,Nat.zero_le _,rfl,Below.refl _ _,fun j z hj=>by omega⟩
 case round =>
  obtain⟨m,hm,rfl,hB,HF⟩:=hrel
  by_cases k1:m<len
  ·obtain⟨x,hx⟩:∃x,xs[m]?=some x:=⟨xs[m]'(by rw[HL.out];exact k1),by simp⟩
   obtain⟨b,off,rfl,hbl,hc⟩:=HP.out m x hx
   have c0:wr.cell? ⟨b,off+m,none⟩=some (.int .i64 x):=by have h:=cell_later hB (hc 0 _ rfl);simpa using h
   have HX:Hid (xs[m]?=some x):=hx
   clear hx hc
   by_cases hv:v=x
   ·have t:(v == x)=true:=by simpa using hv
    go_wp2_with fail
    go_ret
    exact⟨⟨(m:Int),rfl,⟨fun _=>by rw[hv];exact List.mem_of_getElem? HX.out,fun _=>by omega⟩⟩,hB⟩
   ·have t:(v == x)=false:=by simpa using hv
    go_wp2_with fail
    go_roundw
    case rel=>exact⟨m+1,by omega,by go_num,hB,fun j z hj hz=>by
     by_cases e:j=m
     ·subst e;rw[HX.out]at hz;cases hz;exact fun e=>hv e.symm
     ·exact HF.out j z (by omega) hz⟩
    case measure=>simp[intOf];omega
  ·go_wp2_with fail
   go_ret
   refine⟨⟨-1,rfl,⟨fun h=>by omega,fun h=>?_⟩⟩,hB⟩
   obtain⟨j,hj⟩:=List.getElem?_of_mem h
   exact absurd rfl (HF.out j v (by have:=(List.getElem?_eq_some_iff.1 hj).1;have:=HL.out;omega) hj)
theorem contains_any (a:Option Addr) (len cap:Nat) (xs:List Int) (v:Int) (w:World) (hl:xs.length=len) (hp:SlA w 1 intC a xs) (hlen:len≤1048576) :
  Calls Tryz.prog 266 #[.slice a len cap,.int .i64 v] w fun e w'=>e=.returned (.bool (decide (v∈xs)))∧Below w.heap.size w w':=by
 go_enter Tryz.func266,Tryz.ntmps266
 go_wp2_with fail
 refine (index_any a len cap xs v _ hl hp hlen).mono ?_
 rintro e w' ⟨⟨z,rfl,hz⟩,hb⟩
 have HZ:Hid (0≤z↔v∈xs):=hz
 clear hz
 go_wp2_with fail
 go_ret
 refine⟨ret_bo ?_,hb⟩
 rw[decide_eq_decide]
 first | exact HZ.out | (rw[ge_iff_le];exact HZ.out)
def prOp (x want:Int) (s:RdS):Option RdS :=
 if 0≤x then (if s.ts.getD x.toNat 0=want then some s else none)
 else if s.ts.getD (-1-x).toNat 0=want then (if s.stay.contains (-1-x).toNat=true then none else some ⟨s.ts.set (-1-x).toNat 0,s.taken++[(-1-x).toNat],s.stay⟩)
 else none
def prMany (x:Nat):List Int→RdS→Option RdS
 | [],s=>some s
 | t :: r,s=>if s.ts.getD x 0=t then prMany (x+1) r ⟨s.ts,s.taken,s.stay++[x]⟩ else none
def prTk (r:Nat) (x:Nat) (s:RdS):RdS:=if r=18 then ⟨s.ts,s.taken++[x],s.stay⟩ else s
def prStep (r:Nat) (x:Int) (s:RdS):Option RdS :=
 if r=12∨r=13 then prOp x ((askedV r).headD 0) s else prMany x.toNat (askedV r) (prTk r x.toNat s)
def prAll:List (Nat × Int)→RdS→Option RdS
 | [],s=>some s
 | f :: fs,s=>(prStep f.1 f.2 s).bind (prAll fs)
def PrOkF (len r:Nat) (x:Int):Prop :=
 if r=12∨r=13 then x<len∧-1-x<len else (askedV r≠[]→0≤x∧x+(askedV r).length≤len)
theorem prokf_of {nT r:Nat} {x:Int} (hr:r<24) (h:regOk nT (conv r) x):PrOkF nT r x:=by
 have hcs:=r_cases hr
 rcases hcs with rfl | rfl | rfl | rfl | rfl | rfl | rfl | rfl | rfl | rfl | rfl | rfl | rfl | rfl | rfl | rfl | rfl | rfl | rfl | rfl | rfl | rfl | rfl | rfl<;>simp[regOk,conv,convT,wantsV,PrOkF,askedV]at h ⊢<;>first | omega | (split at h<;>omega)
def EqS:Option RdS→Option RdS→Prop
 | none,none=>True
 | some a,some b=>a.ts=b.ts∧a.taken=b.taken
 | _,_=>False
theorem EqS.refl:∀o:Option RdS,EqS o o
 | none=>trivial
 | some _=>⟨rfl,rfl⟩
theorem prStep_eq {r:Nat} (hr:r<24) (h:r≠17∧r≠18∧r≠19) (x:Int) (s:RdS):prStep r x s=rdStep (conv r) x s:=by
 have hcs:=r_cases hr
 obtain⟨h1,h2,h3⟩:=h
 rcases hcs with rfl | rfl | rfl | rfl | rfl | rfl | rfl | rfl | rfl | rfl | rfl | rfl | rfl | rfl | rfl | rfl | rfl | rfl | rfl | rfl | rfl | rfl | rfl | rfl
 all_goals first
  | exact absurd rfl h1
  | exact absurd rfl h2
  | exact absurd rfl h3
  | skip
 all_goals first
  | (simp[prStep,askedV,prMany,prTk,rdStep,conv,convT,wantsV,rdReg,rdTake,rdMore];done)
  | (by_cases hx:0≤x
     ·have hx':¬x<0:=by omega
      simp[prStep,askedV,prOp,rdStep,conv,convT,wantsV,rdReg,rdTake,rdMore,hx,hx']
     ·have hx':x<0:=by omega
      simp[prStep,askedV,prOp,rdStep,conv,convT,wantsV,rdReg,rdTake,rdMore,hx,hx']
      try (split<;>first | rfl | (split<;>first | rfl | simp_all)))
theorem prStep_big {r:Nat} (h:r=17∨r=18∨r=19) (x:Int) (s:RdS):EqS (prStep r x s) (rdStep (conv r) x s):=by
 have hrd:∀role:Int,(wantsV role)=(1,false)→rdStep role x s=if s.ts.getD x.toNat 0=1 then rdMore ⟨s.ts,s.taken,s.stay++[x.toNat]⟩ role x.toNat else none:=by
  intro role hw
  unfold rdStep
  rw[hw]
  simp[rdReg,rdTake]
 by_cases e0:s.ts.getD x.toNat 0=1
 ·rcases h with rfl | rfl | rfl
  ·rw[show conv 17=18 from rfl,hrd 18 rfl,if_pos e0]
   show EqS (prMany x.toNat [1,1,1] s) _
   simp only[prMany]
   rw[if_pos e0]
   by_cases e1:s.ts.getD (x.toNat+1) 0=1
   ·by_cases e2:s.ts.getD (x.toNat+2) 0=1
    ·rw[if_pos e1,if_pos e2]
     unfold rdMore
     rw[if_pos rfl,if_pos ⟨e1,e2⟩]
     exact⟨rfl,rfl⟩
    ·rw[if_pos e1,if_neg e2]
     unfold rdMore
     rw[if_pos rfl,if_neg (fun q=>e2 q.2)]
     exact trivial
   ·rw[if_neg e1]
    unfold rdMore
    rw[if_pos rfl,if_neg (fun q=>e1 q.1)]
    exact trivial
  ·rw[show conv 18=19 from rfl,hrd 19 rfl,if_pos e0]
   show EqS (prMany x.toNat [1,0] ⟨s.ts,s.taken++[x.toNat],s.stay⟩) _
   simp only[prMany]
   rw[if_pos e0]
   rw[show rdMore ⟨s.ts,s.taken,s.stay++[x.toNat]⟩ 19 x.toNat=if s.ts.getD (x.toNat+1) 0=0 then some ⟨s.ts,s.taken++[x.toNat],s.stay++[x.toNat]⟩ else none from by simp[rdMore]]
   by_cases e1:s.ts.getD (x.toNat+1) 0=0
   ·rw[if_pos e1,if_pos e1];exact⟨rfl,rfl⟩
   ·rw[if_neg e1,if_neg e1];exact trivial
  ·rw[show conv 19=20 from rfl,hrd 20 rfl,if_pos e0]
   show EqS (prMany x.toNat [1,1] s) _
   simp only[prMany]
   rw[if_pos e0]
   rw[show rdMore ⟨s.ts,s.taken,s.stay++[x.toNat]⟩ 20 x.toNat=if s.ts.getD (x.toNat+1) 0=1 then some ⟨s.ts,s.taken,s.stay++[x.toNat]⟩ else none from by simp[rdMore]]
   by_cases e1:s.ts.getD (x.toNat+1) 0=1
   ·rw[if_pos e1,if_pos e1];exact⟨rfl,rfl⟩
   ·rw[if_neg e1,if_neg e1];exact trivial
 ·rcases h with rfl | rfl | rfl
  ·rw[show conv 17=18 from rfl,hrd 18 rfl,if_neg e0]
   show EqS (prMany x.toNat [1,1,1] s) _
   simp only[prMany]
   rw[if_neg e0]
   exact trivial
  ·rw[show conv 18=19 from rfl,hrd 19 rfl,if_neg e0]
   show EqS (prMany x.toNat [1,0] ⟨s.ts,s.taken++[x.toNat],s.stay⟩) _
   simp only[prMany]
   rw[if_neg e0]
   exact trivial
  ·rw[show conv 19=20 from rfl,hrd 20 rfl,if_neg e0]
   show EqS (prMany x.toNat [1,1] s) _
   simp only[prMany]
   rw[if_neg e0]
   exact trivial
def Qt (r:Nat):Prop:=r≠12∧r≠13∧r≠18∧askedV r=[]∧(wantsV (conv r)).1=0
theorem Qt.pr {r:Nat} (h:Qt r) (x:Int) (s:RdS):prStep r x s=some s:=by
 obtain⟨h1,h2,h3,h4,_⟩:=h
 unfold prStep prTk
 rw[if_neg (by omega),h4,if_neg h3];rfl
theorem Qt.rd {r:Nat} (h:Qt r) (x:Int) (s:RdS):rdStep (conv r) x s=some s:=by unfold rdStep;rw[if_pos h.2.2.2.2]
def pfl (k:Nat) (n:ID):List (Nat × Int):=[((li k 0).toNat,n.a),((li k 1).toNat,n.b),((li k 2).toNat,n.c),((li k 3).toNat,n.d)]
theorem lay_big:∀k:Fin 43,1≤k.val→((∀j:Fin 4,(li k.val j.val).toNat≠17∧(li k.val j.val).toNat≠18∧(li k.val j.val).toNat≠19)∨(((li k.val 0).toNat=17∨(li k.val 0).toNat=18∨(li k.val 0).toNat=19)∧∀j:Fin 4,1≤j.val→((li k.val j.val).toNat≠12∧(li k.val j.val).toNat≠13∧(li k.val j.val).toNat≠18∧askedV (li k.val j.val).toNat=[]∧(wantsV (conv (li k.val j.val).toNat)).1=0))):=by decide +kernel
theorem prAll_eq {n:ID} {k:Nat} (hk:n.op=k) (h0:1≤k) (h1:k<43) (s:RdS):EqS (prAll (pfl k n) s) (rdAll (fldV n) s):=by
 obtain⟨q0,e0,l0,t0⟩:=lay_nat h0 h1 (j:=0) (by omega)
 obtain⟨q1,e1,l1,t1⟩:=lay_nat h0 h1 (j:=1) (by omega)
 obtain⟨q2,e2,l2,t2⟩:=lay_nat h0 h1 (j:=2) (by omega)
 obtain⟨q3,e3,l3,t3⟩:=lay_nat h0 h1 (j:=3) (by omega)
 have hb:=lay_big ⟨k,h1⟩ h0
 simp only at hb
 unfold pfl fldV
 rw[hk,←t0,←t1,←t2,←t3,e0,e1,e2,e3]
 simp only[Int.toNat_natCast]
 rcases hb with hb | ⟨hb,hq⟩
 ·have b0:=hb 0
  have b1:=hb 1
  have b2:=hb 2
  have b3:=hb 3
  simp only[Fin.val_zero,Fin.val_one,show (2:Fin 4).val=2 from rfl,show (3:Fin 4).val=3 from rfl,e0,e1,e2,e3,Int.toNat_natCast]at b0 b1 b2 b3
  simp only[prAll,rdAll]
  rw[prStep_eq l0 b0]
  cases rdStep (conv q0) n.a s with
  | none=>exact trivial
  | some s0 =>
   simp only[Option.bind_some]
   rw[prStep_eq l1 b1]
   cases rdStep (conv q1) n.b s0 with
   | none=>exact trivial
   | some s1 =>
    simp only[Option.bind_some]
    rw[prStep_eq l2 b2]
    cases rdStep (conv q2) n.c s1 with
    | none=>exact trivial
    | some s2 =>
     simp only[Option.bind_some]
     rw[prStep_eq l3 b3]
     exact EqS.refl _
 ·have c1:Qt q1:=by have:=hq 1 (by decide);simp only[Fin.val_one,e1,Int.toNat_natCast]at this;exact this
  have c2:Qt q2:=by have:=hq 2 (by decide);simp only[show (2:Fin 4).val=2 from rfl,e2,Int.toNat_natCast]at this;exact this
  have c3:Qt q3:=by have:=hq 3 (by decide);simp only[show (3:Fin 4).val=3 from rfl,e3,Int.toNat_natCast]at this;exact this
  rw[e0]at hb
  simp only[Int.toNat_natCast]at hb
  have h:=prStep_big hb n.a s
  simp only[prAll,rdAll]
  cases hp:prStep q0 n.a s with
  | none =>
   cases hr:rdStep (conv q0) n.a s with
   | none=>exact trivial
   | some b=>rw[hp,hr]at h;exact h.elim
  | some a =>
   cases hr:rdStep (conv q0) n.a s with
   | none=>rw[hp,hr]at h;exact h.elim
   | some b =>
    rw[hp,hr]at h
    simp only[Option.bind_some,c1.pr,c2.pr,c3.pr,c1.rd,c2.rd,c3.rd]
    exact h
theorem prMany_len:∀ {l:List Int} {x:Nat} {s s':RdS},prMany x l s=some s'→s'.ts=s.ts∧s'.taken=s.taken∧s'.stay.length=s.stay.length+l.length
 | [],x,s,s',h=>by cases h;exact⟨rfl,rfl,rfl⟩
 | t :: l,x,s,s',h=>by
  unfold prMany at h
  split at h
  ·obtain⟨a,b,c⟩:=prMany_len h
   exact⟨a,b,by rw[c];simp;omega⟩
  ·cases h
theorem asked_len (r:Nat):(askedV r).length≤3:=by
 unfold askedV
 repeat' split
 all_goals simp
theorem prStep_len {r:Nat} {x:Int} {s s':RdS} (h:prStep r x s=some s'):s'.ts.length=s.ts.length∧s'.taken.length≤s.taken.length+1∧s'.stay.length≤s.stay.length+3:=by
 unfold prStep at h
 split at h
 ·unfold prOp at h
  repeat' split at h
  all_goals first | (cases h;done) | (cases h;refine⟨?_,?_,?_⟩<;>simp<;>omega)
 ·obtain⟨a,b,c⟩:=prMany_len h
  have:=asked_len r
  rw[a,b,c]
  unfold prTk
  split<;>refine⟨?_,?_,?_⟩<;>simp<;>omega
structure FrV (W0:World) (S:List Nat) (B gF:Nat) (tv:Value) (wr:World) (sv kv:Value) (s:RdS):Prop where
 base:B≤W0.heap.size
 blk:wr.heap[gF]?=some (.cells #[tv,sv,kv] 176)
 ty:OI wr B tv s.ts
 os:OI wr B sv (nz s.stay)
 ot:OI wr B kv (nz s.taken)
 a1:Apart tv sv
 a2:Apart tv kv
 a3:Apart sv kv
 but:ButL S W0 wr
 o0:gF∈S∨W0.heap.size≤gF
 o1:∀g,tv.ownBlock=some g→g∈S∨W0.heap.size≤g
 o2:∀g,sv.ownBlock=some g→g∈S∨W0.heap.size≤g
 o3:∀g,kv.ownBlock=some g→g∈S∨W0.heap.size≤g
theorem OI.open' {w:World} {B:Nat} {tv:Value} {ts:List Int} (h:OI w B tv ts) (h0:0<ts.length):∃g cap,tv=.slice (some ⟨g,0,none⟩) ts.length cap:=by
 obtain⟨g,cap,e,_⟩:=ORow.open h (fun y=>intC_len y) h0
 exact⟨g,cap,e⟩
theorem OI.not_blk {w:World} {B:Nat} {sv:Value} {ts:List Int} {g:Nat} {arr:Array Value} {t:TypeId} (h:OI w B sv ts) (hg:w.heap[g]?=some (.cells arr t)) (ht:t≠3):sv.ownBlock≠some g:=by
 intro e
 rcases h.2 with ⟨e1,_⟩ | ⟨g0,c0,cur,e1,_,e3,_⟩
 ·rw[e1]at e;cases e
 ·rw[e1]at e;cases e;rw[hg]at e3;cases e3;exact ht rfl
theorem FrV.ge {W0:World} {S:List Nat} {B gF:Nat} {tv:Value} {wr:World} {sv kv:Value} {s:RdS} (h:FrV W0 S B gF tv wr sv kv s):B≤wr.heap.size:=Nat.le_trans h.base h.but.size
theorem FrV.later {W0:World} {S:List Nat} {B gF:Nat} {tv:Value} {wr w':World} {sv kv:Value} {s:RdS} (h:FrV W0 S B gF tv wr sv kv s) (hb:Below wr.heap.size wr w'):FrV W0 S B gF tv w' sv kv s :=
 ⟨h.base,blk_later hb h.blk,h.ty.later hb,h.os.later hb,h.ot.later hb,h.a1,h.a2,h.a3,h.but.thenB hb,h.o0,h.o1,h.o2,h.o3⟩
theorem FrV.drewN {W0:World} {S:List Nat} {B gF:Nat} {tv:Value} {wr:World} {sv kv:Value} {s:RdS} (h:FrV W0 S B gF tv wr sv kv s) (n:Nat):FrV W0 S B gF tv (wr.drewN n) sv kv s :=
 ⟨h.base,h.blk,h.ty.drewN n,h.os.drewN n,h.ot.drewN n,h.a1,h.a2,h.a3,h.but.drewN n,h.o0,h.o1,h.o2,h.o3⟩
theorem FrV.drew {W0:World} {S:List Nat} {B gF:Nat} {tv:Value} {wr:World} {sv kv:Value} {s:RdS} (h:FrV W0 S B gF tv wr sv kv s):FrV W0 S B gF tv wr.drew sv kv s :=
 ⟨h.base,h.blk,h.ty,h.os,h.ot,h.a1,h.a2,h.a3,h.but.drew,h.o0,h.o1,h.o2,h.o3⟩
theorem FrV.anew {W0:World} {S:List Nat} {B gF:Nat} {tv:Value} {wr:World} {sv kv:Value} {s:RdS} (h:FrV W0 S B gF tv wr sv kv s):FrV wr (gF :: (tv.ownBlock.toList++sv.ownBlock.toList++kv.ownBlock.toList)) B gF tv wr sv kv s :=
 ⟨h.ge,h.blk,h.ty,h.os,h.ot,h.a1,h.a2,h.a3,ButL.refl _ _,.inl (by simp),fun g e=>.inl (by rw[e];simp),fun g e=>.inl (by rw[e];simp),fun g e=>.inl (by rw[e];simp)⟩
theorem FrV.back {W0 W1:World} {S S1:List Nat} {B gF:Nat} {tv:Value} {wr:World} {sv kv:Value} {s:RdS} (h:FrV W1 S1 B gF tv wr sv kv s) (hB:B≤W0.heap.size) (hb:ButL S W0 W1) (hS:∀g∈S1,g∈S∨W0.heap.size≤g):FrV W0 S B gF tv wr sv kv s:=by
 have q:∀g,g∈S1∨W1.heap.size≤g→g∈S∨W0.heap.size≤g:=fun g hg=>by
  rcases hg with hg | hg
  ·exact hS g hg
  ·exact .inr (Nat.le_trans hb.size hg)
 exact⟨hB,h.blk,h.ty,h.os,h.ot,h.a1,h.a2,h.a3,hb.then h.but hS,q _ h.o0,fun g e=>q g (h.o1 g e),fun g e=>q g (h.o2 g e),fun g e=>q g (h.o3 g e)⟩
theorem FrV.own {W0:World} {S:List Nat} {B gF:Nat} {tv:Value} {wr:World} {sv kv:Value} {s:RdS} (h:FrV W0 S B gF tv wr sv kv s):∀g∈gF :: (tv.ownBlock.toList++sv.ownBlock.toList++kv.ownBlock.toList),(g∈S∨W0.heap.size≤g)∧g<wr.heap.size:=by
 intro g hg
 simp only[List.mem_cons,List.mem_append,Option.mem_toList]at hg
 rcases hg with rfl | (hg | hg) | hg
 ·exact⟨h.o0,blk_lt h.blk⟩
 ·exact⟨h.o1 g hg,(h.ty.own_lt hg).2⟩
 ·exact⟨h.o2 g hg,(h.os.own_lt hg).2⟩
 ·exact⟨h.o3 g hg,(h.ot.own_lt hg).2⟩
theorem FrV.set {W0:World} {S:List Nat} {B gF g n cap:Nat} {wr:World} {sv kv:Value} {s:RdS} (h:FrV W0 S B gF (.slice (some ⟨g,0,none⟩) n cap) wr sv kv s) (i:Nat) (z:Int) (hi:i<s.ts.length):FrV W0 S B gF (.slice (some ⟨g,0,none⟩) n cap) (wr.setCell ⟨g,i,none⟩ (.int .i64 z)) sv kv ⟨s.ts.set i z,s.taken,s.stay⟩:=by
 have hne:=h.ty.not_blk h.blk (by decide)
 have hg:gF≠g:=fun e=>hne (by rw[e];rfl)
 exact⟨h.base,blk_other h.blk hg.symm i _,h.ty.set i z hi,h.os.set_own (h.a1 g rfl) i _,h.ot.set_own (h.a2 g rfl) i _,h.a1,h.a2,h.a3,h.but.seto (h.o1 g rfl) i _,h.o0,h.o1,h.o2,h.o3⟩
theorem FrV.take {W0:World} {S:List Nat} {B gF:Nat} {tv:Value} {wr:World} {sv kv:Value} {s:RdS} (h:FrV W0 S B gF tv wr sv kv s) (r:Nat) (hl:s.taken.length≤1000) :
  ∃g' cap' w2,(Builtin.append_ #[54,54] 54 #[kv,.slice (some ⟨wr.heap.size,0,none⟩) 1 1]).run Tryz.prog (wr.alloc (.cells #[.int .i64 (r:Int)] 3))=.ok (.slice (some ⟨g',0,none⟩) (s.taken.length+1) cap') w2 ∧
   w2.heap[gF]?=some (.cells #[tv,sv,kv] 176)∧FrV W0 S B gF tv (w2.setCell ⟨gF,2,none⟩ (.slice (some ⟨g',0,none⟩) (s.taken.length+1) cap')) sv (.slice (some ⟨g',0,none⟩) (s.taken.length+1) cap') ⟨s.ts,s.taken++[r],s.stay⟩:=by
 obtain⟨g',cap',w2,hr,ho2,hg,hwh⟩:=OI.app h.ot (r:Int) (by rw[nz_len];omega) h.ge
 rw[nz_len]at hr ho2
 have hk:=h.ot.not_blk h.blk (by decide)
 have hlt:=blk_lt h.blk
 have hb2:w2.heap[gF]?=some (.cells #[tv,sv,kv] 176):=(hg.block gF (by simp;omega) (fun e=>hk e.symm)).trans (blk_old h.blk _)
 have hg':gF≠g':=by
  rintro rfl
  rcases hwh with e | e
  ·exact hk e.symm
  ·omega
 have hS:g'∈S∨W0.heap.size≤g':=by
  rcases hwh with e | e
  ·exact h.o3 g' e.symm
  ·exact .inr (Nat.le_trans h.but.size e)
 have hap:∀ {v:Value} {ts:List Int},OI wr B v ts→Apart v kv→Apart v (.slice (some ⟨g',0,none⟩) (s.taken.length+1) cap'):=by
  intro v ts hv ha b hb e
  cases e
  rcases hwh with e | e
  ·exact ha g' hb e.symm
  ·have h9:g'<wr.heap.size:=(hv.own_lt hb).2
   omega
 refine⟨g',cap',w2,hr,hb2,h.base,?_,?_,?_,?_,h.a1,hap h.ty h.a2,hap h.os h.a3,?_,h.o0,h.o1,h.o2,fun b e=>by cases e;exact hS⟩
 ·have:=blk_set hb2 2 (.slice (some ⟨g',0,none⟩) (s.taken.length+1) cap')
  simpa using this
 ·exact ((h.ty.later (bw1 _ _)).apart h.a2 hg).set_own (h.ty.not_blk h.blk (by decide)) 2 _
 ·exact ((h.os.later (bw1 _ _)).apart h.a3 hg).set_own (h.os.not_blk h.blk (by decide)) 2 _
 ·have:=ORow.set_own ho2 (g:=gF) (fun e=>by cases e;exact hg' rfl) 2 (.slice (some ⟨g',0,none⟩) (s.taken.length+1) cap')
  simp only[nz_app]
  exact this
 ·exact ((h.but.alloc _).grown hg (fun b e=>h.o3 b e)).seto h.o0 2 _
theorem FrV.see {W0:World} {S:List Nat} {B gF:Nat} {tv:Value} {wr:World} {sv kv:Value} {s:RdS} (h:FrV W0 S B gF tv wr sv kv s) (r:Nat) (hl:s.stay.length≤1000) :
  ∃g' cap' w2,(Builtin.append_ #[54,54] 54 #[sv,.slice (some ⟨wr.heap.size,0,none⟩) 1 1]).run Tryz.prog (wr.alloc (.cells #[.int .i64 (r:Int)] 3))=.ok (.slice (some ⟨g',0,none⟩) (s.stay.length+1) cap') w2 ∧
   w2.heap[gF]?=some (.cells #[tv,sv,kv] 176)∧FrV W0 S B gF tv (w2.setCell ⟨gF,1,none⟩ (.slice (some ⟨g',0,none⟩) (s.stay.length+1) cap')) (.slice (some ⟨g',0,none⟩) (s.stay.length+1) cap') kv ⟨s.ts,s.taken,s.stay++[r]⟩:=by
 obtain⟨g',cap',w2,hr,ho2,hg,hwh⟩:=OI.app h.os (r:Int) (by rw[nz_len];omega) h.ge
 rw[nz_len]at hr ho2
 have hk:=h.os.not_blk h.blk (by decide)
 have hlt:=blk_lt h.blk
 have hb2:w2.heap[gF]?=some (.cells #[tv,sv,kv] 176):=(hg.block gF (by simp;omega) (fun e=>hk e.symm)).trans (blk_old h.blk _)
 have hg':gF≠g':=by
  rintro rfl
  rcases hwh with e | e
  ·exact hk e.symm
  ·omega
 have hS:g'∈S∨W0.heap.size≤g':=by
  rcases hwh with e | e
  ·exact h.o2 g' e.symm
  ·exact .inr (Nat.le_trans h.but.size e)
 have hap:∀ {v:Value} {ts:List Int},OI wr B v ts→Apart v sv→Apart v (.slice (some ⟨g',0,none⟩) (s.stay.length+1) cap'):=by
  intro v ts hv ha b hb e
  cases e
  rcases hwh with e | e
  ·exact ha g' hb e.symm
  ·have h9:g'<wr.heap.size:=(hv.own_lt hb).2
   omega
 refine⟨g',cap',w2,hr,hb2,h.base,?_,?_,?_,?_,hap h.ty h.a1,h.a2,(hap h.ot h.a3.symm).symm,?_,h.o0,h.o1,fun b e=>by cases e;exact hS,h.o3⟩
 ·have:=blk_set hb2 1 (.slice (some ⟨g',0,none⟩) (s.stay.length+1) cap')
  simpa using this
 ·exact ((h.ty.later (bw1 _ _)).apart h.a1 hg).set_own (h.ty.not_blk h.blk (by decide)) 1 _
 ·have:=ORow.set_own ho2 (g:=gF) (fun e=>by cases e;exact hg' rfl) 1 (.slice (some ⟨g',0,none⟩) (s.stay.length+1) cap')
  simp only[nz_app]
  exact this
 ·exact ((h.ot.later (bw1 _ _)).apart h.a3.symm hg).set_own (h.ot.not_blk h.blk (by decide)) 1 _
 ·exact ((h.but.alloc _).grown hg (fun b e=>h.o2 b e)).seto h.o0 1 _
theorem FrV.cells {W0:World} {S:List Nat} {B gF:Nat} {tv:Value} {wr:World} {sv kv:Value} {s:RdS} (h:FrV W0 S B gF tv wr sv kv s):wr.cell? ⟨gF,0,none⟩=some tv∧wr.cell? ⟨gF,1,none⟩=some sv∧wr.cell? ⟨gF,2,none⟩=some kv:=by
 refine⟨?_,?_,?_⟩<;>rw[blk_cell h.blk]<;>rfl
def FrA (W0:World) (S:List Nat) (B gF:Nat) (tv:Value) (e:Ending) (w':World) (o:Option RdS):Prop:=match o with
 | none=>e=.returned (.bool false)∧ButL S W0 w'
 | some s=>e=.returned (.bool true)∧∃sv kv,FrV W0 S B gF tv w' sv kv s
end Go.Proofs.YtjglgbepobmjhaaGreatDoor
