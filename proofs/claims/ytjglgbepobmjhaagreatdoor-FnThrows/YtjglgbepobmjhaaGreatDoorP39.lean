import Derived.Test.YtjglgbepobmjhaaGreatDoorP37
import Derived.Test.YtjglgbepobmjhaaGreatDoorP38
import Derived.Test.YtjglgbepobmjhaaGreatDoorP34
set_option linter.unusedVariables false
set_option linter.unusedSimpArgs false
set_option maxRecDepth 20000
set_option maxHeartbeats 8000000
namespace Go.Proofs.YtjglgbepobmjhaaGreatDoor.T
open Go.RowKit M
def kindN (i:Nat):Int:=if i % 2=0 then 4 else 5
def recL (n:Nat):List Int:=(List.range n).map kindN
theorem recL_len (n:Nat):(recL n).length=n:=by simp[recL]
theorem recL_succ (n:Nat):recL (n+1)=recL n++[kindN n]:=by
 unfold recL;rw[List.range_succ,List.map_append];rfl
def R0:List M.SD:=List.replicate 250 sd0
def R1:List M.SD:=R0.set 0 (sdV (intD 7))
theorem R0_len:R0.length=250:=by unfold R0;exact List.length_replicate
theorem R1_len:R1.length=250:=by unfold R1;rw[List.length_set];exact R0_len
theorem R1_drop:R1.drop 4=List.replicate 246 sd0:=by
 unfold R1 R0
 apply List.ext_getElem?
 intro i
 rw[List.getElem?_drop,List.getElem?_set_ne (by omega),List.getElem?_replicate,List.getElem?_replicate]
 by_cases h:i<246
 ·rw[if_pos (by omega),if_pos h]
 ·rw[if_neg (by omega),if_neg h]
theorem R1_at0:R1[0]?=some (sdV (intD 7)):=by
 unfold R1;rw[List.getElem?_set_self (by rw[R0_len];omega)]
theorem R1_at {i:Nat} (h0:i≠0) (h:i<250):R1[i]?=some sd0:=by
 unfold R1 R0;rw[List.getElem?_set_ne (by omega),List.getElem?_replicate,if_pos h]
theorem set_same {l:List M.SD} {i:Nat} {x:M.SD} (h:l[i]?=some x):l.set i x=l:=by
 apply List.ext_getElem?
 intro j
 rw[List.getElem?_set]
 by_cases e:i=j
 ·subst e;rw[if_pos rfl,if_pos (List.getElem?_eq_some_iff.1 h).1,h]
 ·simp[e]
theorem R1_back (a b:M.SD):((((R1.set 4 a).set 5 b).set 4 sd0).set 5 sd0)=R1:=by
 rw[List.set_comm b sd0 (by omega:(5:Nat)≠4),List.set_set,List.set_set]
 rw[set_same (R1_at (by omega) (by omega))]
 exact set_same (R1_at (by omega) (by omega))
structure TK where
 gm:Nat
 gf:Nat
 gt:Nat
 gc:Nat
 gk:Nat
 gch:Nat
 cc:Nat
 ca:Array Value
 ka:Array Value
 bp:Nat
 op:Nat
 capP:Nat
 ov:Addr
 m0:MachD
 c0:CallD
def TK.m (K:TK) (z:Int) (rv:Value):MachD:={ K.m0 with rticks:=z,recs:=rv }
def TK.c (K:TK) (at' next:Int) (gv:Value) (rs:List M.SD):CallD:={ K.c0 with at':=at',next:=next,guards:=gv,regs:=rs }
structure TKok (w0:World) (K:TK):Prop where
 geM:w0.heap.size≤K.gm
 geF:w0.heap.size≤K.gf
 run:K.m0.running=.pointer (some ⟨K.gt,0,none⟩)
 wat:K.m0.watch=.func (.func 17) #[] #[]
 prs:K.m0.protos=.slice (some ⟨K.bp,K.op,none⟩) 1 K.capP
 nam:w0.cell? ⟨K.bp,K.op,none⟩=some (.string ⟨#[109,97,105,110]⟩)
 pro:K.c0.proto=0
 lin:K.c0.line=0
 ovr:OvV w0 (some K.ov)
 tic:0≤K.m0.ticks∧K.m0.ticks≤5000
 ca0:K.ca[0]?=some (.pointer (some ⟨K.gf,0,none⟩))
 cc1:1≤K.cc
structure TX (w0:World) (K:TK) (w:World) (tk nr:Nat) (at' next:Int) (rs:List M.SD) (gl:List (Nat × Int)) (rv gv:Value):Prop where
 bel:Below w0.heap.size w0 w
 mac:MachAt w K.gm (K.m tk rv)
 cal:CallAt w K.gf (K.c at' next gv rs)
 tsk:w.heap[K.gt]?=some (.cells (taskA (.slice (some ⟨K.gc,0,none⟩) 1 K.cc) K.gch 2) 145)
 cro:w.heap[K.gc]?=some (.cells K.ca 146)
 row:w.heap[K.gk]?=some (.cells K.ka 97)
 cha:w.heap[K.gch]?=some (.chan 0 #[] false 0 0 false)
 gu:ORow w w0.heap.size 319 1 vC gv (gl.map fun g=>caV g.1)
 gb:∀g∈gl,w.heap[g.1]?=some (CtO g.2 0)
 rc:ORow w w0.heap.size 41 5 rcC rv (recL nr)
 lr:rs.length=250
section
variable {w0:World} {K:TK} {w w':World} {tk nr:Nat} {at' next:Int} {rs:List M.SD} {gl:List (Nat × Int)} {rv gv:Value}
def twr (K:TK) (rv gv:Value):List Nat:=K.gm :: K.gf :: (gv.ownBlock.toList++rv.ownBlock.toList)
theorem TX.wrTy (ok:TKok w0 K) (h:TX w0 K w tk nr at' next rs gl rv gv):∀g∈twr K rv gv,w0.heap.size≤g∧∃a t,w.heap[g]?=some (.cells a t)∧(t=109∨t=210∨t=319∨t=41):=by
 intro g hg
 simp only[twr,List.mem_cons,List.mem_append,Option.mem_toList]at hg
 rcases hg with rfl | rfl | hg | hg
 ·exact⟨ok.geM,_,_,h.mac,.inl rfl⟩
 ·exact⟨ok.geF,_,_,h.cal,.inr (.inl rfl)⟩
 ·obtain⟨h1,cur,h2⟩:=own_blk h.gu hg
  exact⟨h1,_,_,h2,.inr (.inr (.inl rfl))⟩
 ·obtain⟨h1,cur,h2⟩:=own_blk h.rc hg
  exact⟨h1,_,_,h2,.inr (.inr (.inr rfl))⟩
theorem TX.keep (ok:TKok w0 K) (h:TX w0 K w tk nr at' next rs gl rv gv) (hb:ButL (twr K rv gv) w w') {q:Nat} {b:Array Value} {u:TypeId} (hq:w.heap[q]?=some (.cells b u)) (n1:u≠109) (n2:u≠210) (n3:u≠319) (n4:u≠41):w'.heap[q]?=some (.cells b u):=by
 refine hb.blk hq (fun hm=>?_)
 obtain⟨_,a,t,ht,hc⟩:=h.wrTy ok q hm
 rw[hq]at ht
 injection ht with ht
 injection ht with _ ht
 subst ht
 rcases hc with e | e | e | e
 ·exact n1 e
 ·exact n2 e
 ·exact n3 e
 ·exact n4 e
theorem TX.step (ok:TKok w0 K) (h:TX w0 K w tk nr at' next rs gl rv gv) (hb:ButL (twr K rv gv) w w') {tk2 nr2:Nat} {at2 next2:Int} {rs2:List M.SD} {gl2:List (Nat × Int)} {rv2 gv2:Value}
  (mac:MachAt w' K.gm (K.m tk2 rv2)) (cal:CallAt w' K.gf (K.c at2 next2 gv2 rs2)) (gu:ORow w' w0.heap.size 319 1 vC gv2 (gl2.map fun g=>caV g.1)) (gb:∀g∈gl2,g∈gl∨w'.heap[g.1]?=some (CtO g.2 0)) (rc:ORow w' w0.heap.size 41 5 rcC rv2 (recL nr2)) (lr:rs2.length=250):TX w0 K w' tk2 nr2 at2 next2 rs2 gl2 rv2 gv2:=by
 refine⟨hb.below h.bel (fun g hg=>(h.wrTy ok g hg).1) h.bel.size,mac,cal,h.keep ok hb h.tsk (by decide) (by decide) (by decide) (by decide),h.keep ok hb h.cro (by decide) (by decide) (by decide) (by decide),h.keep ok hb h.row (by decide) (by decide) (by decide) (by decide),hb.blk h.cha (fun hm=>?_),gu,fun g hg=>?_,rc,lr⟩
 ·obtain⟨_,a,t,ht,_⟩:=h.wrTy ok _ hm
  rw[h.cha]at ht;cases ht
 ·rcases gb g hg with e | e
  ·exact h.keep ok hb (h.gb g e) (by decide) (by decide) (by decide) (by decide)
  ·exact e
theorem TX.mf (h:TX w0 K w tk nr at' next rs gl rv gv):K.gm≠K.gf:=ne_ty h.mac h.cal (by decide)
theorem TX.sub (h:TX w0 K w tk nr at' next rs gl rv gv) {S:List Nat} (hb:ButL S w w') (hS:∀g∈S,g∈twr K rv gv):ButL (twr K rv gv) w w':=hb.mono (fun g hg=>.inl (hS g hg))
theorem TX.call (ok:TKok w0 K) (h:TX w0 K w tk nr at' next rs gl rv gv) {at2 next2:Int} {rs2:List M.SD} (hb:ButL [K.gf] w w') (hc:CallAt w' K.gf (K.c at2 next2 gv rs2)) (hl:rs2.length=250):TX w0 K w' tk nr at2 next2 rs2 gl rv gv :=
 h.step ok (h.sub hb (fun g hg=>by simp at hg;subst hg;simp[twr])) (h.mac.but hb (by simp;exact h.mf)) hc (ORow.butn h.gu hb (fun g e hg=>by simp at hg;subst hg;exact own_ne h.gu h.cal (by decide) e)) (fun g hg=>.inl hg) (ORow.butn h.rc hb (fun g e hg=>by simp at hg;subst hg;exact own_ne h.rc h.cal (by decide) e)) hl
theorem TX.mach (ok:TKok w0 K) (h:TX w0 K w tk nr at' next rs gl rv gv) {tk2:Nat} (hb:ButL [K.gm] w w') (hm:MachAt w' K.gm (K.m tk2 rv)):TX w0 K w' tk2 nr at' next rs gl rv gv :=
 h.step ok (h.sub hb (fun g hg=>by simp at hg;subst hg;simp[twr])) hm (h.cal.but hb (by simp;exact h.mf.symm)) (ORow.butn h.gu hb (fun g e hg=>by simp at hg;subst hg;exact own_ne h.gu h.mac (by decide) e)) (fun g hg=>.inl hg) (ORow.butn h.rc hb (fun g e hg=>by simp at hg;subst hg;exact own_ne h.rc h.mac (by decide) e)) h.lr
theorem TX.later (ok:TKok w0 K) (h:TX w0 K w tk nr at' next rs gl rv gv) (hb:Below w.heap.size w w'):TX w0 K w' tk nr at' next rs gl rv gv :=
 h.call ok (ButL.of_below hb) (h.cal.later hb) h.lr
theorem TX.recd (ok:TKok w0 K) (h:TX w0 K w tk nr at' next rs gl rv gv) {rv2:Value} (hb:ButL (K.gm :: rv.ownBlock.toList) w w') (hm:MachAt w' K.gm (K.m tk rv2)) (hr:ORow w' w0.heap.size 41 5 rcC rv2 (recL nr++[kindN nr])):TX w0 K w' tk (nr+1) at' next rs gl rv2 gv:=by
 refine h.step ok (h.sub hb (fun g hg=>?_)) hm (h.cal.but hb ?_) (ORow.butn h.gu hb (fun g e hg=>?_)) (fun g hg=>.inl hg) (by rw[recL_succ];exact hr) h.lr
 ·simp only[List.mem_cons,Option.mem_toList]at hg
  simp only[twr,List.mem_cons,List.mem_append,Option.mem_toList]
  rcases hg with e | e
  ·exact .inl e
  ·exact .inr (.inr (.inr e))
 ·simp only[List.mem_cons,Option.mem_toList,not_or]
  exact⟨h.mf.symm,own_ne h.rc h.cal (by decide)⟩
 ·simp only[List.mem_cons,Option.mem_toList]at hg
  rcases hg with rfl | hg
  ·exact own_ne h.gu h.mac (by decide) e
  ·obtain⟨_,cur,h2⟩:=own_blk h.rc hg
   exact own_ne h.gu h2 (by decide) e
theorem TX.guard (ok:TKok w0 K) (h:TX w0 K w tk nr at' next rs gl rv gv) {gv2:Value} {gl2:List (Nat × Int)} (hb:ButL (K.gf :: gv.ownBlock.toList) w w') (hc:CallAt w' K.gf (K.c at' next gv2 rs)) (hg2:ORow w' w0.heap.size 319 1 vC gv2 (gl2.map fun g=>caV g.1)) (gb:∀g∈gl2,g∈gl∨w'.heap[g.1]?=some (CtO g.2 0)):TX w0 K w' tk nr at' next rs gl2 rv gv2:=by
 refine h.step ok (h.sub hb (fun g hg=>?_)) (h.mac.but hb ?_) hc hg2 gb (ORow.butn h.rc hb (fun g e hg=>?_)) h.lr
 ·simp only[List.mem_cons,Option.mem_toList]at hg
  simp only[twr,List.mem_cons,List.mem_append,Option.mem_toList]
  rcases hg with e | e
  ·exact .inr (.inl e)
  ·exact .inr (.inr (.inl e))
 ·simp only[List.mem_cons,Option.mem_toList,not_or]
  exact⟨h.mf,own_ne h.gu h.mac (by decide)⟩
 ·simp only[List.mem_cons,Option.mem_toList]at hg
  rcases hg with rfl | hg
  ·exact own_ne h.rc h.cal (by decide) e
  ·obtain⟨_,cur,h2⟩:=own_blk h.gu hg
   exact own_ne h.rc h2 (by decide) e
theorem TX.tka (ok:TKok w0 K) (h:TX w0 K w tk nr at' next rs gl rv gv):TkAt w K.gt K.gc K.gf :=
 ⟨⟨K.cc,by rw[blk_cell h.tsk];rfl,ok.cc1⟩,by rw[blk_cell h.tsk];rfl,by rw[blk_cell h.cro];exact ok.ca0⟩
theorem TX.thr (ok:TKok w0 K) (h:TX w0 K w tk nr at' next rs gl rv gv):ThR w K.gm K.gt K.gc K.gf K.bp K.op K.capP (K.m tk rv) (K.c at' next gv rs) :=
 ⟨h.mac,ok.run,h.tka ok,h.cal,ok.pro,ok.lin,ok.prs,cell_later h.bel ok.nam⟩
theorem TX.ov (ok:TKok w0 K) (h:TX w0 K w tk nr at' next rs gl rv gv):OvV w (some K.ov):=ok.ovr.later h.bel
end
end Go.Proofs.YtjglgbepobmjhaaGreatDoor.T
namespace Go.Proofs.YtjglgbepobmjhaaGreatDoor
open Go.RowKit
end Go.Proofs.YtjglgbepobmjhaaGreatDoor
namespace Go.Proofs.YtjglgbepobmjhaaGreatDoor.M
open Go.RowKit
abbrev RD:Type:=Nat ⊕ (Int ⊕ Bool)
abbrev RD.num (n:Int):RD:=.inr (.inl n)
abbrev RD.lst:RD:=.inr (.inr true)
def RD.sd:RD→SD
 | .inr (.inr false)=>sd0
 | .inl r=>sdV (tabV r)
 | .inr (.inl n)=>sdV (intD n)
 | .inr (.inr true)=>sdL (.slice none 0 0)
structure PS where
 at':Nat
 regs:List RD
 nt:Nat
 ng:Nat
structure MK where
 gm:Nat
 gf:Nat
 gt:Nat
 gk:Nat
 gch:Nat
 ta:Array Value
 ka:Array Value
 m0:MachD
 c0:CallD
def MK.m (K:MK) (z:Int) (tv:Value):MachD:={ K.m0 with since:=z,made:=z,tables:=tv }
def MK.c (K:MK) (at' next:Int) (gv:Value) (rs:List SD):CallD:={ K.c0 with at':=at',next:=next,guards:=gv,regs:=rs }
structure MX (w0:World) (K:MK) (w:World) (nt:Nat) (at' next:Int) (regs:List RD) (vs:List Value) (gs:List Nat) (tv gv:Value):Prop where
 bel:Below w0.heap.size w0 w
 geM:w0.heap.size≤K.gm
 geF:w0.heap.size≤K.gf
 mac:MachAt w K.gm (K.m nt tv)
 cal:CallAt w K.gf (K.c at' next gv (regs.map RD.sd))
 tsk:w.heap[K.gt]?=some (.cells K.ta 145)
 row:w.heap[K.gk]?=some (.cells K.ka 97)
 cha:w.heap[K.gch]?=some (.chan 0 #[] false 0 0 false)
 gu:ORow w w0.heap.size 319 1 vC gv vs
 tb:ORow w w0.heap.size 292 1 pC tv gs
 sh:∀g∈gs,w.heap[g]?=some ShO
 lg:gs.length=nt
 lr:regs.length=250
def wr (K:MK) (tv gv:Value):List Nat:=K.gm :: K.gf :: (gv.ownBlock.toList++tv.ownBlock.toList)
theorem ne_chan {w:World} {g g':Nat} {a:Array Value} {t:TypeId} {c:Nat} {b:Array Value} {x:Bool} {s r:Nat} {y:Bool} (h:w.heap[g]?=some (.cells a t)) (h':w.heap[g']?=some (.chan c b x s r y)):g'≠g:=by
 rintro rfl
 rw[h]at h'
 cases h'
theorem own_blk {α:Type} {w:World} {B:Nat} {et:TypeId} {k:Nat} {cells:α→List Value} {sv:Value} {xs:List α} (ho:ORow w B et k cells sv xs) {g:Nat} (h:sv.ownBlock=some g):B≤g∧∃cur,w.heap[g]?=some (.cells cur et):=by
 rcases ho.2 with ⟨e1,_⟩ | ⟨g0,c0,cur,e1,e2,e3,_⟩
 ·rw[e1]at h;cases h
 ·rw[e1]at h
  have e':g0=g:=Option.some.inj h
  subst e'
  exact⟨e2,cur,e3⟩
theorem MX.wrTy {w0:World} {K:MK} {w:World} {nt:Nat} {at' next:Int} {regs:List RD} {vs:List Value} {gs:List Nat} {tv gv:Value} (h:MX w0 K w nt at' next regs vs gs tv gv):∀g∈wr K tv gv,w0.heap.size≤g∧∃a t,w.heap[g]?=some (.cells a t)∧(t=109∨t=210∨t=319∨t=292):=by
 intro g hg
 simp only[wr,List.mem_cons,List.mem_append,Option.mem_toList]at hg
 rcases hg with rfl | rfl | hg | hg
 ·exact⟨h.geM,_,_,h.mac,.inl rfl⟩
 ·exact⟨h.geF,_,_,h.cal,.inr (.inl rfl)⟩
 ·obtain⟨h1,cur,h2⟩:=own_blk h.gu hg
  exact⟨h1,_,_,h2,.inr (.inr (.inl rfl))⟩
 ·obtain⟨h1,cur,h2⟩:=own_blk h.tb hg
  exact⟨h1,_,_,h2,.inr (.inr (.inr rfl))⟩
theorem MX.stay {w0:World} {K:MK} {w w':World} {nt:Nat} {at' next:Int} {regs:List RD} {vs:List Value} {gs:List Nat} {tv gv:Value} (h:MX w0 K w nt at' next regs vs gs tv gv) (hb:ButL (wr K tv gv) w w') :
  Below w0.heap.size w0 w'∧w'.heap[K.gt]?=some (.cells K.ta 145)∧w'.heap[K.gk]?=some (.cells K.ka 97)∧w'.heap[K.gch]?=some (.chan 0 #[] false 0 0 false)∧∀g∈gs,w'.heap[g]?=some ShO:=by
 have hS:=h.wrTy
 have hty:∀(q:Nat) (b:Array Value) (u:TypeId),w.heap[q]?=some (.cells b u)→u≠109→u≠210→u≠319→u≠292→w'.heap[q]?=some (.cells b u):=by
  intro q b u hq n1 n2 n3 n4
  refine hb.blk hq (fun hm=>?_)
  obtain⟨_,a,t,ht,hc⟩:=hS q hm
  rw[hq]at ht
  injection ht with ht
  injection ht with _ ht
  subst ht
  rcases hc with e | e | e | e
  ·exact n1 e
  ·exact n2 e
  ·exact n3 e
  ·exact n4 e
 refine⟨hb.below h.bel (fun g hg=>(hS g hg).1) h.bel.size,hty _ _ _ h.tsk (by decide) (by decide) (by decide) (by decide),hty _ _ _ h.row (by decide) (by decide) (by decide) (by decide),hb.blk h.cha (fun hm=>?_),fun g hg=>hty _ _ _ (h.sh g hg) (by decide) (by decide) (by decide) (by decide)⟩
 obtain⟨_,a,t,ht,_⟩:=hS _ hm
 exact ne_chan ht h.cha rfl
end Go.Proofs.YtjglgbepobmjhaaGreatDoor.M
namespace Go.Proofs.YtjglgbepobmjhaaGreatDoor.M
open Go.RowKit
section
variable {w0:World} {K:MK} {w w':World} {nt:Nat} {at' next:Int} {regs:List RD} {vs:List Value} {gs:List Nat} {tv gv:Value}
theorem MX.mf (h:MX w0 K w nt at' next regs vs gs tv gv):K.gm≠K.gf:=ne_ty h.mac h.cal (by decide)
theorem MX.call (h:MX w0 K w nt at' next regs vs gs tv gv) {at2 next2:Int} {regs2:List RD} (hb:ButL [K.gf] w w') (hc:CallAt w' K.gf (K.c at2 next2 gv (regs2.map RD.sd))) (hl:regs2.length=250):MX w0 K w' nt at2 next2 regs2 vs gs tv gv:=by
 obtain⟨s1,s2,s3,s4,s5⟩:=h.stay (hb.mono (fun g hg=>.inl (by simp at hg;subst hg;simp[wr])))
 exact⟨s1,h.geM,h.geF,h.mac.but hb (by simp;exact h.mf),hc,s2,s3,s4,ORow.butn h.gu hb (fun g e hg=>by simp at hg;subst hg;exact own_ne h.gu h.cal (by decide) e),ORow.butn h.tb hb (fun g e hg=>by simp at hg;subst hg;exact own_ne h.tb h.cal (by decide) e),s5,h.lg,hl⟩
theorem MX.guard (h:MX w0 K w nt at' next regs vs gs tv gv) {gv2:Value} {vs2:List Value} (hb:ButL (K.gf :: gv.ownBlock.toList) w w') (hc:CallAt w' K.gf (K.c at' next gv2 (regs.map RD.sd))) (hg:ORow w' w0.heap.size 319 1 vC gv2 vs2):MX w0 K w' nt at' next regs vs2 gs tv gv2:=by
 have hS:∀g∈K.gf :: gv.ownBlock.toList,g∈wr K tv gv:=fun g hg=>by
  simp only[List.mem_cons,Option.mem_toList]at hg
  simp only[wr,List.mem_cons,List.mem_append,Option.mem_toList]
  rcases hg with e | e
  ·exact .inr (.inl e)
  ·exact .inr (.inr (.inl e))
 obtain⟨s1,s2,s3,s4,s5⟩:=h.stay (hb.mono (fun g hg=>.inl (hS g hg)))
 refine⟨s1,h.geM,h.geF,h.mac.but hb ?_,hc,s2,s3,s4,hg,ORow.butn h.tb hb (fun g e hg=>?_),s5,h.lg,h.lr⟩
 ·simp only[List.mem_cons,Option.mem_toList,not_or]
  exact⟨h.mf,own_ne h.gu h.mac (by decide)⟩
 ·simp only[List.mem_cons,Option.mem_toList]at hg
  rcases hg with rfl | hg
  ·exact own_ne h.tb h.cal (by decide) e
  ·obtain⟨_,cur,h2⟩:=own_blk h.gu hg
   exact own_ne h.tb h2 (by decide) e
end
theorem flat_vC:∀xs:List Value,xs.flatMap vC=xs
 | []=>rfl
 | x :: xs=>by rw[List.flatMap_cons,flat_vC xs];rfl
theorem vrow_shrink {w:World} {B:Nat} {et:TypeId} {g cap:Nat} {xs:List Value} (h:ORow w B et 1 vC (.slice (some ⟨g,0,none⟩) xs.length cap) xs) {m:Nat} (hm:m≤xs.length):ORow w B et 1 vC (.slice (some ⟨g,0,none⟩) m cap) (xs.take m):=by
 have hl:(xs.take m).length=m:=by rw[List.length_take];omega
 obtain⟨h1,h2⟩:=h
 unfold ORow
 rw[hl,flat_vC]
 refine⟨by rw[hl];omega,?_⟩
 rcases h2 with ⟨e,_⟩ | ⟨g',c',cur,e,hb,hg,hl',hm',hs,ht⟩
 ·cases e
 ·injection e with e1 _ e3
  injection e1 with e1
  injection e1 with e1
  subst e1 e3
  refine .inr ⟨g,cap,cur,rfl,hb,hg,by omega,hm',hs,?_⟩
  rw[flat_vC]at ht
  rw[Nat.mul_one]at ht ⊢
  rw[←ht,List.take_take]
  congr 1
  omega
section
variable {w0:World} {K:MK} {w:World} {nt ng at':Nat} {regs:List RD} {vs:List Value} {gs:List Nat} {tv gv:Value} {n:ID} {s:PS}
theorem cf31 (args:Array Value) (W:World):(callFunc 100 args).run Tryz.prog W=.ok (.enter 100 args) W:=by kernel_rfl
theorem cf42 (args:Array Value) (W:World):(callFunc 110 args).run Tryz.prog W=.ok (.enter 110 args) W:=by kernel_rfl
theorem cf19 (args:Array Value) (W:World):(callFunc 93 args).run Tryz.prog W=.ok (.enter 93 args) W:=by kernel_rfl
end
end Go.Proofs.YtjglgbepobmjhaaGreatDoor.M
