import Derived.Test.YtkajknidfoelcaaGreatDoorP07
import Derived.Test.YtkajknidfoelcaaGreatDoorP06
import Derived.Test.YtkajknidfoelcaaGreatDoorP03
import Derived.Test.YtkajknidfoelcaaGreatDoorP02
import Derived.Test.YtkajknidfoelcaaGreatDoorP05
import Derived.Test.YtkajknidfoelcaaGreatDoorP01
import Derived.Deep.CutRange
import Derived.Deep.RegionLaw
import Derived.BigRegion
import Derived.BigQuiet
import Derived.Deep.QuietTactic
set_option linter.unusedVariables false
set_option linter.unusedSimpArgs false
set_option maxRecDepth 20000
set_option maxHeartbeats 8000000
namespace Go.Proofs.YtkajknidfoelcaaGreatDoor
open Go.RowKit
def prOp (x want:Int) (s:RdS):Option RdS :=
 if 0≤x then (if s.ts.getD x.toNat 0=want then some s else none)
 else if s.ts.getD (-1-x).toNat 0=want then (if s.stay.contains (-1-x).toNat=true then none else some ⟨s.ts.set (-1-x).toNat 0,s.taken++[(-1-x).toNat],s.stay⟩)
 else none
def prMany (x:Nat):List Int→RdS→Option RdS
 | [],s=>some s
 | t :: r,s=>if s.ts.getD x 0=t then prMany (x+1) r ⟨s.ts,s.taken,s.stay++[x]⟩ else none
def prTk (r:Nat) (x:Nat) (s:RdS):RdS:=if r=18 then ⟨s.ts,s.taken++[x],s.stay⟩ else s
def prStep (r:Nat) (x:Int) (s:RdS):Option RdS :=
 if r=12∨r=13 then prOp x ((askedV r).headD 0) s else prMany x.toNat (askedV r) (prTk r x.toNat s)
def prAll:List (Nat × Int)→RdS→Option RdS
 | [],s=>some s
 | f :: fs,s=>(prStep f.1 f.2 s).bind (prAll fs)
def PrOkF (len r:Nat) (x:Int):Prop :=
 if r=12∨r=13 then x<len∧-1-x<len else (askedV r≠[]→0≤x∧x+(askedV r).length≤len)
theorem prokf_of {nT r:Nat} {x:Int} (hr:r<24) (h:regOk nT (conv r) x):PrOkF nT r x:=by
 have hcs:=r_cases hr
 rcases hcs with rfl | rfl | rfl | rfl | rfl | rfl | rfl | rfl | rfl | rfl | rfl | rfl | rfl | rfl | rfl | rfl | rfl | rfl | rfl | rfl | rfl | rfl | rfl | rfl<;>simp[regOk,conv,convT,wantsV,PrOkF,askedV]at h ⊢<;>first | omega | (split at h<;>omega)
def EqS:Option RdS→Option RdS→Prop
 | none,none=>True
 | some a,some b=>a.ts=b.ts∧a.taken=b.taken
 | _,_=>False
theorem EqS.refl:∀o:Option RdS,EqS o o
 | none=>trivial
 | some _=>⟨rfl,rfl⟩
theorem prStep_eq {r:Nat} (hr:r<24) (h:r≠17∧r≠18∧r≠19) (x:Int) (s:RdS):prStep r x s=rdStep (conv r) x s:=by
 have hcs:=r_cases hr
 obtain⟨h1,h2,h3⟩:=h
 rcases hcs with rfl | rfl | rfl | rfl | rfl | rfl | rfl | rfl | rfl | rfl | rfl | rfl | rfl | rfl | rfl | rfl | rfl | rfl | rfl | rfl | rfl | rfl | rfl | rfl
 all_goals first
  | exact absurd rfl h1
  | exact absurd rfl h2
  | exact absurd rfl h3
  | skip
 all_goals first
  | (simp[prStep,askedV,prMany,prTk,rdStep,conv,convT,wantsV,rdReg,rdTake,rdMore];done)
  | (by_cases hx:0≤x
     ·have hx':¬x<0:=by omega
      simp[prStep,askedV,prOp,rdStep,conv,convT,wantsV,rdReg,rdTake,rdMore,hx,hx']
     ·have hx':x<0:=by omega
      simp[prStep,askedV,prOp,rdStep,conv,convT,wantsV,rdReg,rdTake,rdMore,hx,hx']
      try (split<;>first | rfl | (split<;>first | rfl | simp_all)))
theorem prStep_big {r:Nat} (h:r=17∨r=18∨r=19) (x:Int) (s:RdS):EqS (prStep r x s) (rdStep (conv r) x s):=by
 have hrd:∀role:Int,(wantsV role)=(1,false)→rdStep role x s=if s.ts.getD x.toNat 0=1 then rdMore ⟨s.ts,s.taken,s.stay++[x.toNat]⟩ role x.toNat else none:=by
  intro role hw
  unfold rdStep
  rw[hw]
  simp[rdReg,rdTake]
 by_cases e0:s.ts.getD x.toNat 0=1
 ·rcases h with rfl | rfl | rfl
  ·rw[show conv 17=18 from rfl,hrd 18 rfl,if_pos e0]
   show EqS (prMany x.toNat [1,1,1] s) _
   simp only[prMany]
   rw[if_pos e0]
   by_cases e1:s.ts.getD (x.toNat+1) 0=1
   ·by_cases e2:s.ts.getD (x.toNat+2) 0=1
    ·rw[if_pos e1,if_pos e2]
     unfold rdMore
     rw[if_pos rfl,if_pos ⟨e1,e2⟩]
     exact⟨rfl,rfl⟩
    ·rw[if_pos e1,if_neg e2]
     unfold rdMore
     rw[if_pos rfl,if_neg (fun q=>e2 q.2)]
     exact trivial
   ·rw[if_neg e1]
    unfold rdMore
    rw[if_pos rfl,if_neg (fun q=>e1 q.1)]
    exact trivial
  ·rw[show conv 18=19 from rfl,hrd 19 rfl,if_pos e0]
   show EqS (prMany x.toNat [1,0] ⟨s.ts,s.taken++[x.toNat],s.stay⟩) _
   simp only[prMany]
   rw[if_pos e0]
   rw[show rdMore ⟨s.ts,s.taken,s.stay++[x.toNat]⟩ 19 x.toNat=if s.ts.getD (x.toNat+1) 0=0 then some ⟨s.ts,s.taken++[x.toNat],s.stay++[x.toNat]⟩ else none from by simp[rdMore]]
   by_cases e1:s.ts.getD (x.toNat+1) 0=0
   ·rw[if_pos e1,if_pos e1];exact⟨rfl,rfl⟩
   ·rw[if_neg e1,if_neg e1];exact trivial
  ·rw[show conv 19=20 from rfl,hrd 20 rfl,if_pos e0]
   show EqS (prMany x.toNat [1,1] s) _
   simp only[prMany]
   rw[if_pos e0]
   rw[show rdMore ⟨s.ts,s.taken,s.stay++[x.toNat]⟩ 20 x.toNat=if s.ts.getD (x.toNat+1) 0=1 then some ⟨s.ts,s.taken,s.stay++[x.toNat]⟩ else none from by simp[rdMore]]
   by_cases e1:s.ts.getD (x.toNat+1) 0=1
   ·rw[if_pos e1,if_pos e1];exact⟨rfl,rfl⟩
   ·rw[if_neg e1,if_neg e1];exact trivial
 ·rcases h with rfl | rfl | rfl
  ·rw[show conv 17=18 from rfl,hrd 18 rfl,if_neg e0]
   show EqS (prMany x.toNat [1,1,1] s) _
   simp only[prMany]
   rw[if_neg e0]
   exact trivial
  ·rw[show conv 18=19 from rfl,hrd 19 rfl,if_neg e0]
   show EqS (prMany x.toNat [1,0] ⟨s.ts,s.taken++[x.toNat],s.stay⟩) _
   simp only[prMany]
   rw[if_neg e0]
   exact trivial
  ·rw[show conv 19=20 from rfl,hrd 20 rfl,if_neg e0]
   show EqS (prMany x.toNat [1,1] s) _
   simp only[prMany]
   rw[if_neg e0]
   exact trivial
def Qt (r:Nat):Prop:=r≠12∧r≠13∧r≠18∧askedV r=[]∧(wantsV (conv r)).1=0
theorem Qt.pr {r:Nat} (h:Qt r) (x:Int) (s:RdS):prStep r x s=some s:=by
 obtain⟨h1,h2,h3,h4,_⟩:=h
 unfold prStep prTk
 rw[if_neg (by omega),h4,if_neg h3];rfl
theorem Qt.rd {r:Nat} (h:Qt r) (x:Int) (s:RdS):rdStep (conv r) x s=some s:=by unfold rdStep;rw[if_pos h.2.2.2.2]
def pfl (k:Nat) (n:ID):List (Nat × Int):=[((li k 0).toNat,n.a),((li k 1).toNat,n.b),((li k 2).toNat,n.c),((li k 3).toNat,n.d)]
theorem lay_big:∀k:Fin 43,1≤k.val→((∀j:Fin 4,(li k.val j.val).toNat≠17∧(li k.val j.val).toNat≠18∧(li k.val j.val).toNat≠19)∨(((li k.val 0).toNat=17∨(li k.val 0).toNat=18∨(li k.val 0).toNat=19)∧∀j:Fin 4,1≤j.val→((li k.val j.val).toNat≠12∧(li k.val j.val).toNat≠13∧(li k.val j.val).toNat≠18∧askedV (li k.val j.val).toNat=[]∧(wantsV (conv (li k.val j.val).toNat)).1=0))):=by decide +kernel
theorem prAll_eq {n:ID} {k:Nat} (hk:n.op=k) (h0:1≤k) (h1:k<43) (s:RdS):EqS (prAll (pfl k n) s) (rdAll (fldV n) s):=by
 obtain⟨q0,e0,l0,t0⟩:=lay_nat h0 h1 (j:=0) (by omega)
 obtain⟨q1,e1,l1,t1⟩:=lay_nat h0 h1 (j:=1) (by omega)
 obtain⟨q2,e2,l2,t2⟩:=lay_nat h0 h1 (j:=2) (by omega)
 obtain⟨q3,e3,l3,t3⟩:=lay_nat h0 h1 (j:=3) (by omega)
 have hb:=lay_big ⟨k,h1⟩ h0
 simp only at hb
 unfold pfl fldV
 rw[hk,←t0,←t1,←t2,←t3,e0,e1,e2,e3]
 simp only[Int.toNat_natCast]
 rcases hb with hb | ⟨hb,hq⟩
 ·have b0:=hb 0
  have b1:=hb 1
  have b2:=hb 2
  have b3:=hb 3
  simp only[Fin.val_zero,Fin.val_one,show (2:Fin 4).val=2 from rfl,show (3:Fin 4).val=3 from rfl,e0,e1,e2,e3,Int.toNat_natCast]at b0 b1 b2 b3
  simp only[prAll,rdAll]
  rw[prStep_eq l0 b0]
  cases rdStep (conv q0) n.a s with
  | none=>exact trivial
  | some s0 =>
   simp only[Option.bind_some]
   rw[prStep_eq l1 b1]
   cases rdStep (conv q1) n.b s0 with
   | none=>exact trivial
   | some s1 =>
    simp only[Option.bind_some]
    rw[prStep_eq l2 b2]
    cases rdStep (conv q2) n.c s1 with
    | none=>exact trivial
    | some s2 =>
     simp only[Option.bind_some]
     rw[prStep_eq l3 b3]
     exact EqS.refl _
 ·have c1:Qt q1:=by have:=hq 1 (by decide);simp only[Fin.val_one,e1,Int.toNat_natCast]at this;exact this
  have c2:Qt q2:=by have:=hq 2 (by decide);simp only[show (2:Fin 4).val=2 from rfl,e2,Int.toNat_natCast]at this;exact this
  have c3:Qt q3:=by have:=hq 3 (by decide);simp only[show (3:Fin 4).val=3 from rfl,e3,Int.toNat_natCast]at this;exact this
  rw[e0]at hb
  simp only[Int.toNat_natCast]at hb
  have h:=prStep_big hb n.a s
  simp only[prAll,rdAll]
  cases hp:prStep q0 n.a s with
  | none =>
   cases hr:rdStep (conv q0) n.a s with
   | none=>exact trivial
   | some b=>rw[hp,hr]at h;exact h.elim
  | some a =>
   cases hr:rdStep (conv q0) n.a s with
   | none=>rw[hp,hr]at h;exact h.elim
   | some b =>
    rw[hp,hr]at h
    simp only[Option.bind_some,c1.pr,c2.pr,c3.pr,c1.rd,c2.rd,c3.rd]
    exact h
theorem prMany_len:∀ {l:List Int} {x:Nat} {s s':RdS},prMany x l s=some s'→s'.ts=s.ts∧s'.taken=s.taken∧s'.stay.length=s.stay.length+l.length
 | [],x,s,s',h=>by cases h;exact⟨rfl,rfl,rfl⟩
 | t :: l,x,s,s',h=>by
  unfold prMany at h
  split at h
  ·obtain⟨a,b,c⟩:=prMany_len h
   exact⟨a,b,by rw[c];simp;omega⟩
  ·cases h
theorem asked_len (r:Nat):(askedV r).length≤3:=by
 unfold askedV
 repeat' split
 all_goals simp
theorem prStep_len {r:Nat} {x:Int} {s s':RdS} (h:prStep r x s=some s'):s'.ts.length=s.ts.length∧s'.taken.length≤s.taken.length+1∧s'.stay.length≤s.stay.length+3:=by
 unfold prStep at h
 split at h
 ·unfold prOp at h
  repeat' split at h
  all_goals first | (cases h;done) | (cases h;refine⟨?_,?_,?_⟩<;>simp<;>omega)
 ·obtain⟨a,b,c⟩:=prMany_len h
  have:=asked_len r
  rw[a,b,c]
  unfold prTk
  split<;>refine⟨?_,?_,?_⟩<;>simp<;>omega
structure FrV (W0:World) (S:List Nat) (B gF:Nat) (tv:Value) (wr:World) (sv kv:Value) (s:RdS):Prop where
 base:B≤W0.heap.size
 blk:wr.heap[gF]?=some (.cells #[tv,sv,kv] 180)
 ty:OI wr B tv s.ts
 os:OI wr B sv (nz s.stay)
 ot:OI wr B kv (nz s.taken)
 a1:Apart tv sv
 a2:Apart tv kv
 a3:Apart sv kv
 but:ButL S W0 wr
 o0:gF∈S∨W0.heap.size≤gF
 o1:∀g,tv.ownBlock=some g→g∈S∨W0.heap.size≤g
 o2:∀g,sv.ownBlock=some g→g∈S∨W0.heap.size≤g
 o3:∀g,kv.ownBlock=some g→g∈S∨W0.heap.size≤g
theorem OI.open' {w:World} {B:Nat} {tv:Value} {ts:List Int} (h:OI w B tv ts) (h0:0<ts.length):∃g cap,tv=.slice (some ⟨g,0,none⟩) ts.length cap:=by
 obtain⟨g,cap,e,_⟩:=ORow.open h (fun y=>intC_len y) h0
 exact⟨g,cap,e⟩
theorem OI.not_blk {w:World} {B:Nat} {sv:Value} {ts:List Int} {g:Nat} {arr:Array Value} {t:TypeId} (h:OI w B sv ts) (hg:w.heap[g]?=some (.cells arr t)) (ht:t≠3):sv.ownBlock≠some g:=by
 intro e
 rcases h.2 with ⟨e1,_⟩ | ⟨g0,c0,cur,e1,_,e3,_⟩
 ·rw[e1]at e;cases e
 ·rw[e1]at e;cases e;rw[hg]at e3;cases e3;exact ht rfl
theorem FrV.ge {W0:World} {S:List Nat} {B gF:Nat} {tv:Value} {wr:World} {sv kv:Value} {s:RdS} (h:FrV W0 S B gF tv wr sv kv s):B≤wr.heap.size:=Nat.le_trans h.base h.but.size
theorem FrV.later {W0:World} {S:List Nat} {B gF:Nat} {tv:Value} {wr w':World} {sv kv:Value} {s:RdS} (h:FrV W0 S B gF tv wr sv kv s) (hb:Below wr.heap.size wr w'):FrV W0 S B gF tv w' sv kv s :=
 ⟨h.base,blk_later hb h.blk,h.ty.later hb,h.os.later hb,h.ot.later hb,h.a1,h.a2,h.a3,h.but.thenB hb,h.o0,h.o1,h.o2,h.o3⟩
theorem FrV.drewN {W0:World} {S:List Nat} {B gF:Nat} {tv:Value} {wr:World} {sv kv:Value} {s:RdS} (h:FrV W0 S B gF tv wr sv kv s) (n:Nat):FrV W0 S B gF tv (wr.drewN n) sv kv s :=
 ⟨h.base,h.blk,h.ty.drewN n,h.os.drewN n,h.ot.drewN n,h.a1,h.a2,h.a3,h.but.drewN n,h.o0,h.o1,h.o2,h.o3⟩
theorem FrV.drew {W0:World} {S:List Nat} {B gF:Nat} {tv:Value} {wr:World} {sv kv:Value} {s:RdS} (h:FrV W0 S B gF tv wr sv kv s):FrV W0 S B gF tv wr.drew sv kv s :=
 ⟨h.base,h.blk,h.ty,h.os,h.ot,h.a1,h.a2,h.a3,h.but.drew,h.o0,h.o1,h.o2,h.o3⟩
theorem FrV.anew {W0:World} {S:List Nat} {B gF:Nat} {tv:Value} {wr:World} {sv kv:Value} {s:RdS} (h:FrV W0 S B gF tv wr sv kv s):FrV wr (gF :: (tv.ownBlock.toList++sv.ownBlock.toList++kv.ownBlock.toList)) B gF tv wr sv kv s :=
 ⟨h.ge,h.blk,h.ty,h.os,h.ot,h.a1,h.a2,h.a3,ButL.refl _ _,.inl (by simp),fun g e=>.inl (by rw[e];simp),fun g e=>.inl (by rw[e];simp),fun g e=>.inl (by rw[e];simp)⟩
theorem FrV.back {W0 W1:World} {S S1:List Nat} {B gF:Nat} {tv:Value} {wr:World} {sv kv:Value} {s:RdS} (h:FrV W1 S1 B gF tv wr sv kv s) (hB:B≤W0.heap.size) (hb:ButL S W0 W1) (hS:∀g∈S1,g∈S∨W0.heap.size≤g):FrV W0 S B gF tv wr sv kv s:=by
 have q:∀g,g∈S1∨W1.heap.size≤g→g∈S∨W0.heap.size≤g:=fun g hg=>by
  rcases hg with hg | hg
  ·exact hS g hg
  ·exact .inr (Nat.le_trans hb.size hg)
 exact⟨hB,h.blk,h.ty,h.os,h.ot,h.a1,h.a2,h.a3,hb.then h.but hS,q _ h.o0,fun g e=>q g (h.o1 g e),fun g e=>q g (h.o2 g e),fun g e=>q g (h.o3 g e)⟩
theorem FrV.own {W0:World} {S:List Nat} {B gF:Nat} {tv:Value} {wr:World} {sv kv:Value} {s:RdS} (h:FrV W0 S B gF tv wr sv kv s):∀g∈gF :: (tv.ownBlock.toList++sv.ownBlock.toList++kv.ownBlock.toList),(g∈S∨W0.heap.size≤g)∧g<wr.heap.size:=by
 intro g hg
 simp only[List.mem_cons,List.mem_append,Option.mem_toList]at hg
 rcases hg with rfl | (hg | hg) | hg
 ·exact⟨h.o0,blk_lt h.blk⟩
 ·exact⟨h.o1 g hg,(h.ty.own_lt hg).2⟩
 ·exact⟨h.o2 g hg,(h.os.own_lt hg).2⟩
 ·exact⟨h.o3 g hg,(h.ot.own_lt hg).2⟩
theorem FrV.set {W0:World} {S:List Nat} {B gF g n cap:Nat} {wr:World} {sv kv:Value} {s:RdS} (h:FrV W0 S B gF (.slice (some ⟨g,0,none⟩) n cap) wr sv kv s) (i:Nat) (z:Int) (hi:i<s.ts.length):FrV W0 S B gF (.slice (some ⟨g,0,none⟩) n cap) (wr.setCell ⟨g,i,none⟩ (.int .i64 z)) sv kv ⟨s.ts.set i z,s.taken,s.stay⟩:=by
 have hne:=h.ty.not_blk h.blk (by decide)
 have hg:gF≠g:=fun e=>hne (by rw[e];rfl)
 exact⟨h.base,blk_other h.blk hg.symm i _,h.ty.set i z hi,h.os.set_own (h.a1 g rfl) i _,h.ot.set_own (h.a2 g rfl) i _,h.a1,h.a2,h.a3,h.but.seto (h.o1 g rfl) i _,h.o0,h.o1,h.o2,h.o3⟩
theorem FrV.take {W0:World} {S:List Nat} {B gF:Nat} {tv:Value} {wr:World} {sv kv:Value} {s:RdS} (h:FrV W0 S B gF tv wr sv kv s) (r:Nat) (hl:s.taken.length≤1000) :
  ∃g' cap' w2,(Builtin.append_ #[59,59] 59 #[kv,.slice (some ⟨wr.heap.size,0,none⟩) 1 1]).run Tryz.prog (wr.alloc (.cells #[.int .i64 (r:Int)] 3))=.ok (.slice (some ⟨g',0,none⟩) (s.taken.length+1) cap') w2 ∧
   w2.heap[gF]?=some (.cells #[tv,sv,kv] 180)∧FrV W0 S B gF tv (w2.setCell ⟨gF,2,none⟩ (.slice (some ⟨g',0,none⟩) (s.taken.length+1) cap')) sv (.slice (some ⟨g',0,none⟩) (s.taken.length+1) cap') ⟨s.ts,s.taken++[r],s.stay⟩:=by
 obtain⟨g',cap',w2,hr,ho2,hg,hwh⟩:=OI.app h.ot (r:Int) (by rw[nz_len];omega) h.ge
 rw[nz_len]at hr ho2
 have hk:=h.ot.not_blk h.blk (by decide)
 have hlt:=blk_lt h.blk
 have hb2:w2.heap[gF]?=some (.cells #[tv,sv,kv] 180):=(hg.block gF (by simp;omega) (fun e=>hk e.symm)).trans (blk_old h.blk _)
 have hg':gF≠g':=by
  rintro rfl
  rcases hwh with e | e
  ·exact hk e.symm
  ·omega
 have hS:g'∈S∨W0.heap.size≤g':=by
  rcases hwh with e | e
  ·exact h.o3 g' e.symm
  ·exact .inr (Nat.le_trans h.but.size e)
 have hap:∀ {v:Value} {ts:List Int},OI wr B v ts→Apart v kv→Apart v (.slice (some ⟨g',0,none⟩) (s.taken.length+1) cap'):=by
  intro v ts hv ha b hb e
  cases e
  rcases hwh with e | e
  ·exact ha g' hb e.symm
  ·have h9:g'<wr.heap.size:=(hv.own_lt hb).2
   omega
 refine⟨g',cap',w2,hr,hb2,h.base,?_,?_,?_,?_,h.a1,hap h.ty h.a2,hap h.os h.a3,?_,h.o0,h.o1,h.o2,fun b e=>by cases e;exact hS⟩
 ·have:=blk_set hb2 2 (.slice (some ⟨g',0,none⟩) (s.taken.length+1) cap')
  simpa using this
 ·exact ((h.ty.later (bw1 _ _)).apart h.a2 hg).set_own (h.ty.not_blk h.blk (by decide)) 2 _
 ·exact ((h.os.later (bw1 _ _)).apart h.a3 hg).set_own (h.os.not_blk h.blk (by decide)) 2 _
 ·have:=ORow.set_own ho2 (g:=gF) (fun e=>by cases e;exact hg' rfl) 2 (.slice (some ⟨g',0,none⟩) (s.taken.length+1) cap')
  simp only[nz_app]
  exact this
 ·exact ((h.but.alloc _).grown hg (fun b e=>h.o3 b e)).seto h.o0 2 _
theorem FrV.see {W0:World} {S:List Nat} {B gF:Nat} {tv:Value} {wr:World} {sv kv:Value} {s:RdS} (h:FrV W0 S B gF tv wr sv kv s) (r:Nat) (hl:s.stay.length≤1000) :
  ∃g' cap' w2,(Builtin.append_ #[59,59] 59 #[sv,.slice (some ⟨wr.heap.size,0,none⟩) 1 1]).run Tryz.prog (wr.alloc (.cells #[.int .i64 (r:Int)] 3))=.ok (.slice (some ⟨g',0,none⟩) (s.stay.length+1) cap') w2 ∧
   w2.heap[gF]?=some (.cells #[tv,sv,kv] 180)∧FrV W0 S B gF tv (w2.setCell ⟨gF,1,none⟩ (.slice (some ⟨g',0,none⟩) (s.stay.length+1) cap')) (.slice (some ⟨g',0,none⟩) (s.stay.length+1) cap') kv ⟨s.ts,s.taken,s.stay++[r]⟩:=by
 obtain⟨g',cap',w2,hr,ho2,hg,hwh⟩:=OI.app h.os (r:Int) (by rw[nz_len];omega) h.ge
 rw[nz_len]at hr ho2
 have hk:=h.os.not_blk h.blk (by decide)
 have hlt:=blk_lt h.blk
 have hb2:w2.heap[gF]?=some (.cells #[tv,sv,kv] 180):=(hg.block gF (by simp;omega) (fun e=>hk e.symm)).trans (blk_old h.blk _)
 have hg':gF≠g':=by
  rintro rfl
  rcases hwh with e | e
  ·exact hk e.symm
  ·omega
 have hS:g'∈S∨W0.heap.size≤g':=by
  rcases hwh with e | e
  ·exact h.o2 g' e.symm
  ·exact .inr (Nat.le_trans h.but.size e)
 have hap:∀ {v:Value} {ts:List Int},OI wr B v ts→Apart v sv→Apart v (.slice (some ⟨g',0,none⟩) (s.stay.length+1) cap'):=by
  intro v ts hv ha b hb e
  cases e
  rcases hwh with e | e
  ·exact ha g' hb e.symm
  ·have h9:g'<wr.heap.size:=(hv.own_lt hb).2
   omega
 refine⟨g',cap',w2,hr,hb2,h.base,?_,?_,?_,?_,hap h.ty h.a1,h.a2,(hap h.ot h.a3.symm).symm,?_,h.o0,h.o1,fun b e=>by cases e;exact hS,h.o3⟩
 ·have:=blk_set hb2 1 (.slice (some ⟨g',0,none⟩) (s.stay.length+1) cap')
  simpa using this
 ·exact ((h.ty.later (bw1 _ _)).apart h.a1 hg).set_own (h.ty.not_blk h.blk (by decide)) 1 _
 ·have:=ORow.set_own ho2 (g:=gF) (fun e=>by cases e;exact hg' rfl) 1 (.slice (some ⟨g',0,none⟩) (s.stay.length+1) cap')
  simp only[nz_app]
  exact this
 ·exact ((h.ot.later (bw1 _ _)).apart h.a3.symm hg).set_own (h.ot.not_blk h.blk (by decide)) 1 _
 ·exact ((h.but.alloc _).grown hg (fun b e=>h.o2 b e)).seto h.o0 1 _
theorem FrV.cells {W0:World} {S:List Nat} {B gF:Nat} {tv:Value} {wr:World} {sv kv:Value} {s:RdS} (h:FrV W0 S B gF tv wr sv kv s):wr.cell? ⟨gF,0,none⟩=some tv∧wr.cell? ⟨gF,1,none⟩=some sv∧wr.cell? ⟨gF,2,none⟩=some kv:=by
 refine⟨?_,?_,?_⟩<;>rw[blk_cell h.blk]<;>rfl
def FrA (W0:World) (S:List Nat) (B gF:Nat) (tv:Value) (e:Ending) (w':World) (o:Option RdS):Prop:=match o with
 | none=>e=.returned (.bool false)∧ButL S W0 w'
 | some s=>e=.returned (.bool true)∧∃sv kv,FrV W0 S B gF tv w' sv kv s
theorem above_keep {gs:List GD} {k:Int} (hk:0≤k):aboveB gs k=!decide (k<keepV gs):=by
 have h:=keep_le gs 0 k
 rw[Bool.eq_iff_iff]
 unfold keepV aboveB
 simp only[List.all_eq_true,Bool.not_eq_true',Bool.and_eq_false_imp,decide_eq_false_iff_not,Int.not_lt]
 rw[h]
 exact⟨fun q=>⟨hk,q⟩,fun q=>q.2⟩
theorem keepV_drop {gs:List GD} {g:GD} (h:gs.getLast?=some g) (ht:g.t=false):keepV gs.dropLast=keepV gs:=by
 obtain⟨ys,rfl⟩:=List.getLast?_eq_some_iff.1 h
 rw[List.dropLast_concat]
 unfold keepV
 rw[List.foldl_append]
 simp[ht]
def GZ (gs:List GD):Prop:=∀g∈gs,g.t=false→g.h=0
theorem GZ.drop {gs:List GD} (h:GZ gs):GZ gs.dropLast:=fun g hg=>h g (List.dropLast_subset _ hg)
theorem GZ.app {gs:List GD} (h:GZ gs) {g:GD} (hg:g.t=false→g.h=0):GZ (gs++[g]):=fun x hx=>by
 rcases List.mem_append.1 hx with hx | hx
 ·exact h x hx
 ·simp at hx;subst hx;exact hg
theorem changeV_gz {n:ID} {gs gs':List GD} (h:GZ gs) (hc:changeV n gs=some gs'):GZ gs':=by
 unfold changeV at hc
 repeat' split at hc
 all_goals first
  | (cases hc;done)
  | (cases hc;exact h)
  | (cases hc;exact h.drop)
  | (cases hc;exact h.app (fun _=>Eq.refl (0:Int)))
  | (cases hc;exact h.app (fun e=>Bool.noConfusion e))
  | (cases hc;rename_i g hg hq;exact h.drop.app (fun _=>h g (List.mem_of_getLast? hg) hq.1))
def withV (g:GD) (gs:List GD):Option (List GD):=if gs.length<50∧keepV gs≤g.k then some (gs++[g]) else none
def GA (w:World) (gv:Value) (gs:List GD):Prop:=∃a cap,gv=.slice a gs.length cap∧gs.length≤cap∧SlA w 3 GD.cells a gs∧∀b off,gs≠[]→a=some ⟨b,off,none⟩→∃cur,w.heap[b]?=some (.cells cur 176)
theorem GA.of_own {w:World} {B:Nat} {gv:Value} {gs:List GD} (h:ORow w B 176 3 GD.cells gv gs):GA w gv gs:=by
 obtain⟨a,cap,e,hs⟩:=h.lies GD.len
 rcases h.2 with ⟨e1,e2⟩ | ⟨g,c,cur,e1,_,e3,e4,_⟩
 ·have e':=e
  rw[e1]at e'
  injection e' with q1 q2 q3
  refine⟨a,cap,e,by omega,hs,fun b off hne ea=>?_⟩
  rw[ea]at q1;cases q1
 ·have e':=e
  rw[e1]at e'
  injection e' with q1 q2 q3
  refine⟨a,cap,e,by omega,hs,fun b off _ ea=>?_⟩
  rw[ea]at q1;cases q1;exact⟨cur,e3⟩
theorem GA.nil (w:World):GA w (.slice none 0 0) []:=⟨none,0,rfl,Nat.le_refl _,SlA.nil _ _ _ _,fun b off hne=>absurd rfl hne⟩
theorem SlA.but' {α:Type} {S:List Nat} {w w':World} {k:Nat} {cells:α→List Value} {a:Option Addr} {xs:List α} (h:SlA w k cells a xs) (hS:∀b off,xs≠[]→a=some ⟨b,off,none⟩→b∉S) (hb:ButL S w w'):SlA w' k cells a xs:=by
 intro i x hx
 obtain⟨b,off,e,hl,hc⟩:=h i x hx
 have hn:b∉S:=hS b off (by rintro rfl;simp at hx) e
 refine⟨b,off,e,Nat.lt_of_lt_of_le hl hb.size,fun j v hv=>?_⟩
 have:=hc j v hv
 unfold World.cell? at this ⊢
 rw[hb.block b hl hn]
 exact this
theorem GA.butl {S:List Nat} {w w':World} {gv:Value} {gs:List GD} (h:GA w gv gs) (hb:ButL S w w') (hS:∀g∈S,∀cur,w.heap[g]?≠some (.cells cur 176)):GA w' gv gs:=by
 obtain⟨a,cap,e,h0,h1,h2⟩:=h
 have hn:∀b off,gs≠[]→a=some ⟨b,off,none⟩→b∉S:=fun b off hne ea hm=>by obtain⟨cur,hc⟩:=h2 b off hne ea;exact hS b hm cur hc
 exact⟨a,cap,e,h0,h1.but' hn hb,fun b off hne ea=>by obtain⟨cur,hc⟩:=h2 b off hne ea;exact⟨cur,hb.blk hc (hn b off hne ea)⟩⟩
theorem GA.later {w w':World} {gv:Value} {gs:List GD} (h:GA w gv gs) (hb:Below w.heap.size w w'):GA w' gv gs:=h.butl (S:=[]) (ButL.of_below hb) (fun g hg=>by cases hg)
theorem GA.take {w:World} {a:Option Addr} {n cap:Nat} {gs:List GD} (h:GA w (.slice a n cap) gs) (m:Nat) (hm:m≤gs.length):GA w (.slice a m cap) (gs.take m):=by
 obtain⟨a',cap',e,h0,h1,h2⟩:=h
 cases e
 refine⟨a,cap,by rw[List.length_take,Nat.min_eq_left hm],by rw[List.length_take];omega,?_,fun b off hne ea=>h2 b off (by rintro rfl;simp at hne) ea⟩
 intro i x hx
 rw[List.getElem?_take]at hx
 split at hx
 ·exact h1 i x hx
 ·cases hx
def ChP (o:Option (List GD)) (e:Ending) (w':World):Prop:=match o with
 | none=>e=.returned (.tuple #[.slice none 0 0,.bool false])
 | some gs'=>∃gv',e=.returned (.tuple #[gv',.bool true])∧GA w' gv' gs'
theorem keptBy_v {a:Option Addr} {len cap:Nat} {gs:List GD} {w:World} {k:Int} (hl:gs.length=len) (hp:SlA w 3 GD.cells a gs) (hlen:len≤1048576) (hk:keepV gs=k) :
  Calls Tryz.prog 72 #[.slice a len cap] w fun e w'=>e=.returned (.int .i64 k)∧Below w.heap.size w w':=by
 have h:=keptBy_any a len cap gs w hl hp hlen
 rw[hk]at h
 exact h
theorem push_gd (x:GD) {B nb:Nat} {gs:List GD} {w1:World} {sv:Value} (ho:ORow w1 B 176 3 GD.cells sv gs) (hn:w1.heap[nb]?=some (.cells #[.bool x.t,.int .i64 x.k,.int .i64 x.h] 176)) (hlen:gs.length≤50) (hB:B≤w1.heap.size) :
  ∃g' cap' w2,(Builtin.append_ #[120,120] 120 #[sv,.slice (some ⟨nb,0,none⟩) 1 1]).run Tryz.prog w1=.ok (.slice (some ⟨g',0,none⟩) (gs.length+1) cap') w2 ∧
   Hid (ORow w2 B 176 3 GD.cells (.slice (some ⟨g',0,none⟩) (gs.length+1) cap') (gs++[x]))∧Hid (w1.grownBy w2 sv.ownBlock):=by
 obtain⟨g',cap',w2,hr,ho2,hg⟩:=ho.app 120 24 Tryz.underlying120 (by kernel_rfl) (by omega) (by omega) x nb 120 hn rfl (by intro u hu;simp[GD.cells]at hu;rcases hu with rfl | rfl | rfl<;>rfl) (by omega) hB
 exact⟨g',cap',w2,hr,ho2,hg⟩
theorem step_append_run {P:Program} {ops:Array Oper} {o:Oper} {a:Act} {w:World} {K:Act→World→Prop} {Q:Exit→Act→World→Prop} {E:Prop}
  (hg:o.guard=none) (s x:Operand) (t:TypeId) (hop:o.op=Op.call { callee:=Callee.builtin Builtin.append,args:=#[s,x],argTypes:=#[t,t] })
  (sv xv v':Value) (w':World) (hs:a.eval s=sv) (hx:a.eval x=xv) (hrun:(Builtin.append_ #[t,t] o.type #[sv,xv]).run P w=.ok v' w') (hK:K (a.put o.dst v') w') :
  if Region.wanted o (yielded ops a.tmps)=true then Oper.wp P o a w K Q else E:=by
 have hw:Region.wanted o (yielded ops a.tmps)=true:=by simp[Region.wanted,hg]
 rw[if_pos hw]
 unfold Oper.wp
 simp[execOp,hop,resolve,invoke,builtin,hs,hx,hrun,Result.andThen]
 exact hK
theorem below_d {w w':World} (h:Below w.drew.heap.size w.drew w'):Below w.heap.size w w':=⟨h.os,h.tape,h.output,h.size,h.block⟩
theorem below_ad {w w':World} {o:Obj} (h:Below (w.alloc o).drew.heap.size (w.alloc o).drew w'):Below w.heap.size w w':=(bw1 w o).trans ((below_d h).mono (by simp))
theorem ButL.nil {w w':World} (h:ButL [] w w'):Below w.heap.size w w':=⟨h.os,h.tape,h.output,h.size,fun k hk=>h.block k hk (by simp)⟩
theorem gwith_any (g:GD) (a:Option Addr) (cap:Nat) (gs:List GD) (w:World) (hp:SlA w 3 GD.cells a gs) (hlen:gs.length≤50) :
  Calls Tryz.prog 151 #[.agg #[.bool g.t,.int .i64 g.k,.int .i64 g.h],.slice a gs.length cap] w fun e w'=>ChP (withV g gs) e w'∧Below w.heap.size w w':=by
 have hy:=bw1 w (.cells #[.bool g.t,.int .i64 g.k,.int .i64 g.h] 176)
 obtain⟨W1,hW1⟩:∃W1,w.alloc (.cells #[.bool g.t,.int .i64 g.k,.int .i64 g.h] 176)=W1:=⟨_,rfl⟩
 have hbk:W1.heap[w.heap.size]?=some (.cells #[.bool g.t,.int .i64 g.k,.int .i64 g.h] 176):=by rw[←hW1];exact blk_new _ _
 rw[hW1]at hy
 have HY:Hid (Below w.heap.size w W1):=hy
 have HP:Hid (SlA W1 3 GD.cells a gs):=hp.later hy
 have HBK:Hid (W1.heap[w.heap.size]?=some (.cells #[.bool g.t,.int .i64 g.k,.int .i64 g.h] 176)):=hbk
 have c0:W1.cell? ⟨w.heap.size,0,none⟩=some (.bool g.t):=by rw[blk_cell hbk];rfl
 have c1:W1.cell? ⟨w.heap.size,1,none⟩=some (.int .i64 g.k):=by rw[blk_cell hbk];rfl
 have c2:W1.cell? ⟨w.heap.size,2,none⟩=some (.int .i64 g.h):=by rw[blk_cell hbk];rfl
 clear hp hy hbk
 obtain⟨kp,hkp⟩:∃kp,keepV gs=kp:=⟨_,rfl⟩
 have HKP:Hid (keepV gs=kp):=hkp
 by_cases hk:gs.length<50
 ·have t:decide ((50:Int)≤(gs.length:Int))=false:=by simp;omega
  by_cases hq:g.k<kp
  ·have HV:Hid (withV g gs=none):=by show withV _ _=_;unfold withV;rw[if_neg (by omega)]
   clear hkp
   go_enter Tryz.func151,Tryz.ntmps151
   go_wp2_with fail
   clear hW1
   have e0:=lat_cell c0
   have e1:=lat_cell c1
   have e2:=lat_cell c2
   haveI:=lat_some W1
   refine wp_region_lat (by kernel_rfl) (by kernel_rfl) ?_
   repeat (go_big_quiet_step ((go_at_call 72;exact lat_calls (keptBy_v rfl (HP.out.later (Lat.below _)) (by omega) HKP.out))))
   refine wpQuiet_nil ?_
   rintro _ ⟨nq,rfl⟩
   go_wp2_with fail
   refine bodyPost_ret (v:=.tuple #[.slice none 0 0,.bool false]) (by simp[results,Tryz.results151,go_sem]) rfl ⟨?_,HY.out.trans (nq.below.mono HY.out.size)⟩
   rw[HV.out]
   exact rfl
  ·have HV:Hid (withV g gs=some (gs++[g])):=by show withV _ _=_;unfold withV;rw[if_pos (by omega)]
   clear hkp
   go_enter Tryz.func151,Tryz.ntmps151
   go_wp2_with fail
   clear hW1
   have e0:=lat_cell c0
   have e1:=lat_cell c1
   have e2:=lat_cell c2
   haveI:=lat_some W1
   refine wp_region_lat (by kernel_rfl) (by kernel_rfl) ?_
   repeat (go_big_quiet_step ((go_at_call 72;exact lat_calls (keptBy_v rfl (HP.out.later (Lat.below _)) (by omega) HKP.out))))
   refine wpQuiet_nil ?_
   rintro _ ⟨nq,rfl⟩
   obtain⟨w2,hw2⟩:∃w2,nq.wd=w2:=⟨_,rfl⟩
   have hb2:Below W1.heap.size W1 w2:=hw2▸nq.below
   rw[hw2]
   clear hw2 nq e0 e1 e2 c0 c1 c2
   have HP2:Hid (SlA w2 3 GD.cells a gs):=HP.out.later hb2
   have hbk:=blk_later hb2 HBK.out
   have HBK2:Hid _:=hbk
   have c0:w2.cell? ⟨w.heap.size,0,none⟩=some (.bool g.t):=by rw[blk_cell hbk];rfl
   have c1:w2.cell? ⟨w.heap.size,1,none⟩=some (.int .i64 g.k):=by rw[blk_cell hbk];rfl
   have c2:w2.cell? ⟨w.heap.size,2,none⟩=some (.int .i64 g.h):=by rw[blk_cell hbk];rfl
   have HB2:Hid (Below W1.heap.size W1 w2):=hb2
   clear hbk hb2
   go_wp2_with fail
   go_cut [4,5] from 16 to 20 (fun s4 s5 wx=>s5=.bool true∧∃g' cap',s4=.slice (some ⟨g',0,none⟩) (gs.length+1) cap'∧Hid (ORow wx w2.heap.size 176 3 GD.cells (.slice (some ⟨g',0,none⟩) (gs.length+1) cap') (gs++[g]))∧Hid (Below w2.heap.size w2 wx))
   case first =>
    go_region_law (first
     | (go_simp;go_at_call 63;refine (clone_gd a gs.length cap gs _ rfl (by first | exact HP2.out.later (Below.refl _ _).drew | exact HP2.out.later (bw1 _ _).drew) (by omega)).mono ?_;rintro e w3 ⟨⟨sv,rfl,ho⟩,hb3⟩;obtain⟨a1,k1,rfl⟩:=ho.val;have HB3:Hid (Below w2.heap.size w2 w3):=(by first | exact (below_d hb3) | exact (below_ad hb3));have HO3:Hid (ORow w3 w2.heap.size 176 3 GD.cells (.slice a1 gs.length k1) gs):=(by first | exact ho | exact ORow.mono ho (by show w2.heap.size≤(w2.alloc _).heap.size;simp));(first | (have hnb:Hid (w3.heap[w2.heap.size]?=some (.cells #[.bool g.t,.int .i64 g.k,.int .i64 g.h] 176)):=blk_later (below_d hb3) (blk_new _ _)) | skip);have d0:=cell_later HB3.out c0;have d1:=cell_later HB3.out c1;have d2:=cell_later HB3.out c2;clear ho hb3 c0 c1 c2)
     | (first
       | (have hp9:=push_gd g HO3.out hnb.out (by omega) HB3.out.size;obtain⟨g',cap',w4,hr,ho4,hg4⟩:=hp9;refine step_append_run rfl _ _ _ rfl _ _ _ _ rfl rfl hr ?_;have HB4:Hid (Below w2.heap.size w2 w4):=ButL.nil (ButL.grown (S:=[]) (ButL.of_below HB3.out) hg4.out (fun b e=>.inr (HO3.out.own_lt e).1));clear hr hg4)
       | (have hp9:=push_gd g (HO3.out.later (bw1 w3 (.cells #[.bool g.t,.int .i64 g.k,.int .i64 g.h] 176))) (blk_new _ _) (by omega) (by have:=HB3.out.size;simp;omega);obtain⟨g',cap',w4,hr,ho4,hg4⟩:=hp9;refine step_append_run rfl _ _ _ rfl _ _ _ _ rfl rfl hr ?_;have HB4:Hid (Below w2.heap.size w2 w4):=ButL.nil (ButL.grown (S:=[]) ((ButL.of_below HB3.out).alloc (.cells #[.bool g.t,.int .i64 g.k,.int .i64 g.h] 176)) hg4.out (fun b e=>.inr (HO3.out.own_lt e).1));clear hr hg4)))
    all_goals
     go_wp2_with fail
     go_meet
     exact⟨rfl,g',cap',rfl,ho4,HB4⟩
   case rest =>
    obtain⟨rfl,g',cap',rfl,ho4,HB4⟩:=hcut
    clear c0 c1 c2
    go_wp2_with fail
    refine bodyPost_ret (v:=.tuple #[.slice (some ⟨g',0,none⟩) (gs.length+1) cap',.bool true]) (by simp[results,Tryz.results151,go_sem]) rfl ⟨?_,?_⟩
    ·rw[HV.out]
     exact⟨_,rfl,GA.of_own ho4.out⟩
    ·have h1:=HY.out.trans (HB2.out.mono HY.out.size)
     exact h1.trans (HB4.out.mono h1.size)
 ·have t:decide ((50:Int)≤(gs.length:Int))=true:=by simp;omega
  have HV:Hid (withV g gs=none):=by show withV _ _=_;unfold withV;rw[if_neg (by omega)]
  clear hkp
  go_enter Tryz.func151,Tryz.ntmps151
  go_wp2_with fail
  clear hW1
  have e0:=lat_cell c0
  have e1:=lat_cell c1
  have e2:=lat_cell c2
  haveI:=lat_some W1
  refine wp_region_lat (by kernel_rfl) (by kernel_rfl) ?_
  repeat (go_big_quiet_step ((go_at_call 72;exact lat_calls (keptBy_v rfl (HP.out.later (Lat.below _)) (by omega) HKP.out))))
  refine wpQuiet_nil ?_
  rintro _ ⟨nq,rfl⟩
  go_wp2_with fail
  refine bodyPost_ret (v:=.tuple #[.slice none 0 0,.bool false]) (by simp[results,Tryz.results151,go_sem]) rfl ⟨?_,HY.out.trans (nq.below.mono HY.out.size)⟩
  rw[HV.out]
  exact rfl
theorem gwith_e (t:Bool) (k h:Int) {a:Option Addr} {cap:Nat} {gs:List GD} {w:World} {o:Option (List GD)} (hp:SlA w 3 GD.cells a gs) (hlen:gs.length≤50) (ho:withV ⟨t,k,h⟩ gs=o) :
  Calls Tryz.prog 151 #[.agg #[.bool t,.int .i64 k,.int .i64 h],.slice a gs.length cap] w fun e w'=>ChP o e w'∧Below w.heap.size w w':=by
 have h9:=gwith_any ⟨t,k,h⟩ a cap gs w hp hlen
 rw[ho]at h9
 exact h9
theorem with_31 {n:ID} {gs:List GD} (e:n.op=31) (hb:0≤n.b):changeV n gs=withV ⟨true,n.b,n.a⟩ gs:=by
 unfold changeV withV
 rw[if_pos e,above_keep hb]
 by_cases h:gs.length<50∧keepV gs≤n.b
 ·rw[if_pos h,if_pos ⟨h.1,by simpa using h.2⟩]
 ·rw[if_neg h,if_neg (fun q=>h ⟨q.1,by simpa using q.2⟩)]
theorem with_33 {n:ID} {gs:List GD} (e:n.op=33) (ha:0≤n.a):changeV n gs=withV ⟨false,n.a,0⟩ gs:=by
 unfold changeV withV
 rw[if_neg (by omega),if_pos e,above_keep ha]
 by_cases h:gs.length<50∧keepV gs≤n.a
 ·rw[if_pos h,if_pos ⟨h.1,by simpa using h.2⟩]
 ·rw[if_neg h,if_neg (fun q=>h ⟨q.1,by simpa using q.2⟩)]
theorem with_34 {n:ID} {ys:List GD} {g:GD} (e:n.op=34) (ha:0≤n.a) (hl:(ys++[g]).length≤50) (hz:GZ (ys++[g])) (ht:g.t=false):changeV n (ys++[g])=withV ⟨false,n.a,0⟩ ys:=by
 have hk:keepV ys=keepV (ys++[g]):=by
  have:=keepV_drop (gs:=ys++[g]) (g:=g) (by simp) ht
  rwa [List.dropLast_concat]at this
 have hh:g.h=0:=hz g (by simp) ht
 simp at hl
 unfold changeV withV
 rw[if_neg (by omega),if_neg (by omega),if_neg (by omega),if_pos e,above_keep ha,←hk]
 simp only[List.getLast?_append,List.getLast?_singleton,Option.some_or,List.dropLast_concat,ht,hh,true_and]
 by_cases h:keepV ys≤n.a
 ·have h':(!decide (n.a<keepV ys))=true:=by simpa using h
  rw[if_pos h',if_pos ⟨by omega,h⟩]
 ·have h':¬(!decide (n.a<keepV ys))=true:=by simpa using h
  rw[if_neg h',if_neg (fun q=>h q.2)]
theorem below_dN {w w':World} {n:Nat} (h:Below (w.drewN n).heap.size (w.drewN n) w'):Below w.heap.size w w':=⟨h.os,h.tape,h.output,h.size,h.block⟩
abbrev IOb (n:ID):Obj:=.cells #[.int .i64 n.op,.int .i64 n.a,.int .i64 n.b,.int .i64 n.c,.int .i64 n.d] 52
end Go.Proofs.YtkajknidfoelcaaGreatDoor
