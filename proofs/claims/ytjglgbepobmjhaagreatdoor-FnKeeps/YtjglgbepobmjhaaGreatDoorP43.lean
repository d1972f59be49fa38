import Derived.Test.YtjglgbepobmjhaaGreatDoorP42
set_option linter.unusedVariables false
set_option linter.unusedSimpArgs false
set_option maxRecDepth 20000
set_option maxHeartbeats 8000000
namespace Go.Proofs.YtjglgbepobmjhaaGreatDoor.M
open Go.RowKit
section
variable {w0:World} {K:MK} {w w':World} {nt:Nat} {at' next:Int} {regs:List RD} {vs:List Value} {gs:List Nat} {tv gv:Value}
theorem MX.mf (h:MX w0 K w nt at' next regs vs gs tv gv):K.gm≠K.gf:=ne_ty h.mac h.cal (by decide)
theorem MX.call (h:MX w0 K w nt at' next regs vs gs tv gv) {at2 next2:Int} {regs2:List RD} (hb:ButL [K.gf] w w') (hc:CallAt w' K.gf (K.c at2 next2 gv (regs2.map RD.sd))) (hl:regs2.length=250):MX w0 K w' nt at2 next2 regs2 vs gs tv gv:=by
 obtain⟨s1,s2,s3,s4,s5⟩:=h.stay (hb.mono (fun g hg=>.inl (by simp at hg;subst hg;simp[wr])))
 exact⟨s1,h.geM,h.geF,h.mac.but hb (by simp;exact h.mf),hc,s2,s3,s4,ORow.butn h.gu hb (fun g e hg=>by simp at hg;subst hg;exact own_ne h.gu h.cal (by decide) e),ORow.butn h.tb hb (fun g e hg=>by simp at hg;subst hg;exact own_ne h.tb h.cal (by decide) e),s5,h.lg,hl⟩
theorem MX.guard (h:MX w0 K w nt at' next regs vs gs tv gv) {gv2:Value} {vs2:List Value} (hb:ButL (K.gf :: gv.ownBlock.toList) w w') (hc:CallAt w' K.gf (K.c at' next gv2 (regs.map RD.sd))) (hg:ORow w' w0.heap.size 319 1 vC gv2 vs2):MX w0 K w' nt at' next regs vs2 gs tv gv2:=by
 have hS:∀g∈K.gf :: gv.ownBlock.toList,g∈wr K tv gv:=fun g hg=>by
  simp only[List.mem_cons,Option.mem_toList]at hg
  simp only[wr,List.mem_cons,List.mem_append,Option.mem_toList]
  rcases hg with e | e
  ·exact .inr (.inl e)
  ·exact .inr (.inr (.inl e))
 obtain⟨s1,s2,s3,s4,s5⟩:=h.stay (hb.mono (fun g hg=>.inl (hS g hg)))
 refine⟨s1,h.geM,h.geF,h.mac.but hb ?_,hc,s2,s3,s4,hg,ORow.butn h.tb hb (fun g e hg=>?_),s5,h.lg,h.lr⟩
 ·simp only[List.mem_cons,Option.mem_toList,not_or]
  exact⟨h.mf,own_ne h.gu h.mac (by decide)⟩
 ·simp only[List.mem_cons,Option.mem_toList]at hg
  rcases hg with rfl | hg
  ·exact own_ne h.tb h.cal (by decide) e
  ·obtain⟨_,cur,h2⟩:=own_blk h.gu hg
   exact own_ne h.tb h2 (by decide) e
theorem map_setR (regs:List RD) (i:Nat) (x:RD):(regs.map RD.sd).set i x.sd=(regs.set i x).map RD.sd:=by rw[List.map_set]
end
theorem flat_vC:∀xs:List Value,xs.flatMap vC=xs
 | []=>rfl
 | x :: xs=>by rw[List.flatMap_cons,flat_vC xs];rfl
theorem vrow_shrink {w:World} {B:Nat} {et:TypeId} {g cap:Nat} {xs:List Value} (h:ORow w B et 1 vC (.slice (some ⟨g,0,none⟩) xs.length cap) xs) {m:Nat} (hm:m≤xs.length):ORow w B et 1 vC (.slice (some ⟨g,0,none⟩) m cap) (xs.take m):=by
 have hl:(xs.take m).length=m:=by rw[List.length_take];omega
 obtain⟨h1,h2⟩:=h
 unfold ORow
 rw[hl,flat_vC]
 refine⟨by rw[hl];omega,?_⟩
 rcases h2 with ⟨e,_⟩ | ⟨g',c',cur,e,hb,hg,hl',hm',hs,ht⟩
 ·cases e
 ·injection e with e1 _ e3
  injection e1 with e1
  injection e1 with e1
  subst e1 e3
  refine .inr ⟨g,cap,cur,rfl,hb,hg,by omega,hm',hs,?_⟩
  rw[flat_vC]at ht
  rw[Nat.mul_one]at ht ⊢
  rw[←ht,List.take_take]
  congr 1
  omega
def DoP (w0:World) (K:MK) (at':Int) (s:PS) (e:Ending) (w':World):Prop:=e=.returned .nilIface∧∃nx vs gs tv gv,MX w0 K w' s.nt at' nx s.regs vs gs tv gv∧vs.length=s.ng∧nx=(s.at':Int)
section
variable {w0:World} {K:MK} {w:World} {nt ng at':Nat} {regs:List RD} {vs:List Value} {gs:List Nat} {tv gv:Value} {n:ID} {s:PS}
theorem lenR (h:MX w0 K w nt at' (at'+1) regs vs gs tv gv):(regs.map RD.sd).length=250:=by rw[List.length_map];exact h.lr
theorem do12 (ok:MKok K) (h:MX w0 K w nt at' (at'+1) regs vs gs tv gv) (hv:vs.length=ng) (hop:n.op=12) (hs:stepN n ⟨at',regs,nt,ng⟩=some s) :
  Calls Tryz.prog 86 #[.pointer (some ⟨K.gm,0,none⟩),.pointer (some ⟨K.gf,0,none⟩),insV n] w (DoP w0 K at' s):=by
 unfold stepN at hs
 rw[if_pos hop]at hs
 split at hs
 ·rename_i hc
  obtain⟨i,hi⟩:∃i:Nat,n.a=i:=⟨n.a.toNat,by omega⟩
  cases hs
  have hnt:nt<9:=hc.2.2
  have hcl:=ok.cells
  refine (doTable_any w0.heap.size K.gm K.gf i n (K.m nt tv) (K.c at' (at'+1) gv (regs.map RD.sd)) gs w h.mac h.cal h.tb hi (by omega) (lenR h) (by have:=h.lg;omega) h.bel.size ok.living (by show (0:Int)≤(nt:Int);omega) (by show (nt:Int)+1≤K.m0.cells;omega) (by show K.m0.cells≤_;omega) (by show (0:Int)≤(nt:Int);omega) (by show (nt:Int)≤_;omega)).mono ?_
  rintro e w1 ⟨rfl,tv',gn,q1,q2,q3,q4,q5,q6⟩
  have hS:∀g∈K.gm :: K.gf :: tv.ownBlock.toList,g∈wr K tv gv:=fun g hg=>by
   simp only[List.mem_cons,Option.mem_toList]at hg
   simp only[wr,List.mem_cons,List.mem_append,Option.mem_toList]
   rcases hg with e | e | e
   ·exact .inl e
   ·exact .inr (.inl e)
   ·exact .inr (.inr (.inr e))
  obtain⟨s1,s2,s3,s4,s5⟩:=h.stay (q6.mono (fun g hg=>.inl (hS g hg)))
  refine⟨rfl,(at':Int)+1,vs,gs++[gn],tv',gv,⟨s1,h.geM,h.geF,?_,?_,s2,s3,s4,ORow.butn h.gu q6 (fun g e hg=>?_),q3,?_,?_,?_⟩,hv,by simp⟩
  ·have e1:((nt+1:Nat):Int)=(nt:Int)+1:=by omega
   show MachAt w1 K.gm (K.m ((nt+1:Nat):Int) tv')
   rw[e1]
   exact q1
  ·have q2':CallAt w1 K.gf (K.c at' (at'+1) gv ((regs.map RD.sd).set i (RD.tab gs.length).sd)):=q2
   rw[map_setR,h.lg]at q2'
   have e2:n.a.toNat=i:=by omega
   show CallAt w1 K.gf (K.c at' (at'+1) gv ((regs.set n.a.toNat (RD.tab nt)).map RD.sd))
   rw[e2]
   exact q2'
  ·simp only[List.mem_cons,Option.mem_toList]at hg
   rcases hg with rfl | rfl | hg
   ·exact own_ne h.gu h.mac (by decide) e
   ·exact own_ne h.gu h.cal (by decide) e
   ·obtain⟨_,cur,h2⟩:=own_blk h.tb hg
    exact own_ne h.gu h2 (by decide) e
  ·intro g hg
   simp only[List.mem_append,List.mem_singleton]at hg
   rcases hg with hg | rfl
   ·exact s5 g hg
   ·exact q5
  ·rw[List.length_append,h.lg];rfl
  ·rw[List.length_set];exact h.lr
 ·cases hs
theorem do31 (h:MX w0 K w nt at' (at'+1) regs vs gs tv gv) (hv:vs.length=ng) (hop:n.op=31) (hs:stepN n ⟨at',regs,nt,ng⟩=some s) :
  Calls Tryz.prog 100 #[.pointer (some ⟨K.gm,0,none⟩),.pointer (some ⟨K.gf,0,none⟩),insV n] w (DoP w0 K at' s):=by
 unfold stepN at hs
 rw[if_neg (by omega),if_pos hop]at hs
 split at hs
 ·rename_i hc
  cases hs
  have hng:ng<50:=hc
  refine (doTry_any _ w0.heap.size K.gf n (K.c at' (at'+1) gv (regs.map RD.sd)) vs w h.cal h.gu (by omega) h.bel.size).mono ?_
  rintro e w1 ⟨rfl,gv',gn,q1,q2,q3,q4,q5⟩
  refine⟨rfl,_,vs++[caV gn],gs,tv,gv',h.guard q5 q1 q2,?_,by simp⟩
  rw[List.length_append,hv];rfl
 ·cases hs
theorem do40 (h:MX w0 K w nt at' (at'+1) regs vs gs tv gv) (hv:vs.length=ng) (hop:n.op=40) (hnt:nt≤9) (hs:stepN n ⟨at',regs,nt,ng⟩=some s) :
  Calls Tryz.prog 108 #[.pointer (some ⟨K.gm,0,none⟩),.pointer (some ⟨K.gf,0,none⟩),insV n] w (DoP w0 K at' s):=by
 unfold stepN at hs
 rw[if_neg (by omega),if_neg (by omega),if_pos hop]at hs
 split at hs
 ·rename_i hc
  obtain⟨i,hi⟩:∃i:Nat,n.a=i:=⟨n.a.toNat,by omega⟩
  have e2:n.a.toNat=i:=by omega
  cases hs
  obtain⟨h1,h2,h3⟩:=hc
  rw[e2]at h3
  replace h3:isTab nt (regs[i]?)=true:=h3
  cases hr:regs[i]? with
  | none=>rw[hr]at h3;cases h3
  | some x =>
   rw[hr]at h3
   cases x with
   | inr y=>cases y with
    | inl z=>cases h3
    | inr z=>cases h3
   | inl r =>
    have hrn:r<nt:=by simpa [isTab] using h3
    obtain⟨gn,hgn⟩:∃gn,gs[r]?=some gn:=⟨gs[r]'(by have:=h.lg;omega),by simp⟩
    refine (doEach_any w0.heap.size K.gm K.gf i r gn n (K.m nt tv) (K.c at' (at'+1) gv (regs.map RD.sd)) gs w h.mac h.cal h.tb hi (by omega) (lenR h) (by have:=h.lg;omega) (by show (regs.map RD.sd)[i]?=_;rw[List.getElem?_map,hr];rfl) hgn (h.sh gn (List.mem_of_getElem? hgn))).mono ?_
    rintro e w1 ⟨rfl,q1,q2⟩
    have q1':CallAt w1 K.gf (K.c at' (at'+1) gv ((regs.map RD.sd).set (i+1) (RD.num 0).sd)):=q1
    rw[map_setR]at q1'
    refine⟨rfl,_,vs,gs,tv,gv,h.call q2 (regs2:=regs.set (n.a.toNat+1) (.num 0)) (by rw[e2];exact q1') (by rw[List.length_set];exact h.lr),hv,by simp⟩
 ·cases hs
theorem do42 (h:MX w0 K w nt at' (at'+1) regs vs gs tv gv) (hv:vs.length=ng) (hop:n.op=42) (hs:stepN n ⟨at',regs,nt,ng⟩=some s) :
  Calls Tryz.prog 110 #[.pointer (some ⟨K.gm,0,none⟩),.pointer (some ⟨K.gf,0,none⟩),insV n] w (DoP w0 K at' s):=by
 unfold stepN at hs
 rw[if_neg (by omega),if_neg (by omega),if_neg (by omega),if_pos hop]at hs
 split at hs
 ·rename_i hc
  obtain⟨i,hi⟩:∃i:Nat,n.a=i:=⟨n.a.toNat,by omega⟩
  have e2:n.a.toNat=i:=by omega
  cases hs
  refine (doDrop_any _ K.gf i n (K.c at' (at'+1) gv (regs.map RD.sd)) w h.cal (lenR h) (by omega) hi).mono ?_
  rintro e w1 ⟨rfl,q1,q2⟩
  have q1':CallAt w1 K.gf (K.c at' (at'+1) gv ((regs.map RD.sd).set i RD.no.sd)):=q1
  rw[map_setR]at q1'
  exact⟨rfl,_,vs,gs,tv,gv,h.call q2 (regs2:=regs.set n.a.toNat .no) (by rw[e2];exact q1') (by rw[List.length_set];exact h.lr),hv,by simp⟩
 ·cases hs
theorem do32 (h:MX w0 K w nt at' (at'+1) regs vs gs tv gv) (hv:vs.length=ng) (hng:ng≤50) (hop:n.op=32) (hs:stepN n ⟨at',regs,nt,ng⟩=some s) :
  Calls Tryz.prog 101 #[.pointer (some ⟨K.gm,0,none⟩),.pointer (some ⟨K.gf,0,none⟩),insV n] w (DoP w0 K at' s):=by
 unfold stepN at hs
 rw[if_neg (by omega),if_neg (by omega),if_neg (by omega),if_neg (by omega),if_pos hop]at hs
 split at hs
 ·rename_i hc
  replace hc:0<ng:=hc
  cases hs
  obtain⟨k,rfl⟩:∃k,ng=k+1:=⟨ng-1,by omega⟩
  obtain⟨ga,cap,hgv,hge,hcap,_,_,_⟩:=h.gu.open vC_len (by omega)
  rw[hv]at hgv hcap
  refine (doEndTry_any _ K.gf k cap (some ⟨ga,0,none⟩) n (K.c at' (at'+1) gv (regs.map RD.sd)) w h.cal hgv hcap (by omega)).mono ?_
  rintro e w1 ⟨rfl,q1,q2⟩
  refine⟨rfl,_,vs.take k,gs,tv,.slice (some ⟨ga,0,none⟩) k cap,h.guard (q2.mono (fun g hg=>.inl (by simp at hg;subst hg;simp))) q1 ?_,by rw[List.length_take];show min k vs.length=k;omega,by simp⟩
  have hg1:=ORow.butn h.gu q2 (fun g e hg=>by simp at hg;subst hg;exact own_ne h.gu h.cal (by decide) e)
  rw[hgv,←hv]at hg1
  exact vrow_shrink hg1 (by omega)
 ·cases hs
theorem do19 (h:MX w0 K w nt at' (at'+1) regs vs gs tv gv) (hv:vs.length=ng) (hop:n.op=19) (hs:stepN n ⟨at',regs,nt,ng⟩=some s) :
  Calls Tryz.prog 93 #[.pointer (some ⟨K.gm,0,none⟩),.pointer (some ⟨K.gf,0,none⟩),insV n] w (DoP w0 K at' s):=by
 unfold stepN at hs
 rw[if_neg (by omega),if_neg (by omega),if_neg (by omega),if_neg (by omega),if_neg (by omega),if_pos hop]at hs
 split at hs
 ·rename_i hc
  replace hc:(at':Int)<n.a∧n.a<100:=hc
  cases hs
  refine (doJump_any _ K.gf n (K.c at' (at'+1) gv (regs.map RD.sd)) w h.cal hop).mono ?_
  rintro e w1 ⟨rfl,q1,q2⟩
  exact⟨rfl,n.a,vs,gs,tv,gv,h.call q2 q1 h.lr,hv,by show n.a=(n.a.toNat:Int);omega⟩
 ·cases hs
theorem do22 (h:MX w0 K w nt at' (at'+1) regs vs gs tv gv) (hv:vs.length=ng) (hop:n.op=22) (hs:stepN n ⟨at',regs,nt,ng⟩=some s) :
  Calls Tryz.prog 94 #[.pointer (some ⟨K.gm,0,none⟩),.pointer (some ⟨K.gf,0,none⟩),insV n] w (DoP w0 K at' s):=by
 unfold stepN at hs
 rw[if_neg (by omega),if_neg (by omega),if_neg (by omega),if_neg (by omega),if_neg (by omega),if_neg (by omega),if_pos hop]at hs
 split at hs
 ·rename_i hc
  obtain⟨i,hi⟩:∃i:Nat,n.a=i:=⟨n.a.toNat,by omega⟩
  have e2:n.a.toNat=i:=by omega
  cases hs
  refine (doList_any _ K.gf i n (K.c at' (at'+1) gv (regs.map RD.sd)) w h.cal (lenR h) (by omega) hi).mono ?_
  rintro e w1 ⟨rfl,q1,q2⟩
  have q1':CallAt w1 K.gf (K.c at' (at'+1) gv ((regs.map RD.sd).set i RD.lst.sd)):=q1
  rw[map_setR]at q1'
  exact⟨rfl,_,vs,gs,tv,gv,h.call q2 (regs2:=regs.set n.a.toNat .lst) (by rw[e2];exact q1') (by rw[List.length_set];exact h.lr),hv,by simp⟩
 ·cases hs
theorem cf12 (args:Array Value) (W:World):(callFunc 86 args).run Tryz.prog W=.ok (.enter 86 args) W:=by kernel_rfl
theorem cf31 (args:Array Value) (W:World):(callFunc 100 args).run Tryz.prog W=.ok (.enter 100 args) W:=by kernel_rfl
theorem cf40 (args:Array Value) (W:World):(callFunc 108 args).run Tryz.prog W=.ok (.enter 108 args) W:=by kernel_rfl
theorem cf42 (args:Array Value) (W:World):(callFunc 110 args).run Tryz.prog W=.ok (.enter 110 args) W:=by kernel_rfl
theorem cf32 (args:Array Value) (W:World):(callFunc 101 args).run Tryz.prog W=.ok (.enter 101 args) W:=by kernel_rfl
theorem cf19 (args:Array Value) (W:World):(callFunc 93 args).run Tryz.prog W=.ok (.enter 93 args) W:=by kernel_rfl
theorem cf22 (args:Array Value) (W:World):(callFunc 94 args).run Tryz.prog W=.ok (.enter 94 args) W:=by kernel_rfl
theorem cf29 (args:Array Value) (W:World):(callFunc 98 args).run Tryz.prog W=.ok (.enter 98 args) W:=by kernel_rfl
theorem do_any (ok:MKok K) (h:MX w0 K w nt at' (at'+1) regs vs gs tv gv) (hv:vs.length=ng) (hnt:nt≤9) (hng:ng≤50) (hs:stepN n ⟨at',regs,nt,ng⟩=some s) :
  ∃(op fid:Nat),n.op=op∧op<43∧instT[op]?=some (.func (.func fid) #[] #[])∧(∀args W,(callFunc fid args).run Tryz.prog W=.ok (.enter fid args) W)∧Calls Tryz.prog fid #[.pointer (some ⟨K.gm,0,none⟩),.pointer (some ⟨K.gf,0,none⟩),insV n] w (DoP w0 K at' s):=by
 by_cases h12:n.op=12
 ·exact⟨12,_,h12,by omega,rfl,cf12,do12 ok h hv h12 hs⟩
 by_cases h31:n.op=31
 ·exact⟨31,_,h31,by omega,rfl,cf31,do31 h hv h31 hs⟩
 by_cases h40:n.op=40
 ·exact⟨40,_,h40,by omega,rfl,cf40,do40 h hv h40 hnt hs⟩
 by_cases h42:n.op=42
 ·exact⟨42,_,h42,by omega,rfl,cf42,do42 h hv h42 hs⟩
 by_cases h32:n.op=32
 ·exact⟨32,_,h32,by omega,rfl,cf32,do32 h hv hng h32 hs⟩
 by_cases h19:n.op=19
 ·exact⟨19,_,h19,by omega,rfl,cf19,do19 h hv h19 hs⟩
 by_cases h22:n.op=22
 ·exact⟨22,_,h22,by omega,rfl,cf22,do22 h hv h22 hs⟩
 exfalso
 unfold stepN at hs
 rw[if_neg h12,if_neg h31,if_neg h40,if_neg h42,if_neg h32,if_neg h19,if_neg h22]at hs
 cases hs
def RetP (w0:World) (K:MK) (nt:Nat) (at':Int) (vs:List Value) (gs:List Nat) (tv gv:Value) (e:Ending) (w':World):Prop:=∃gr regs',e=.returned (.iface 154 (.pointer (some ⟨gr,0,none⟩)))∧w0.heap.size≤gr∧w'.heap[gr]?=some (.cells #[.slice none 0 0] 156)∧MX w0 K w' nt at' (at'+1) regs' vs gs tv gv
theorem do29 (h:MX w0 K w nt at' (at'+1) regs vs gs tv gv) (hs:retN n ⟨at',regs,nt,ng⟩=true) :
  Calls Tryz.prog 98 #[.pointer (some ⟨K.gm,0,none⟩),.pointer (some ⟨K.gf,0,none⟩),insV n] w (RetP w0 K nt at' vs gs tv gv):=by
 unfold retN at hs
 simp only[Bool.and_eq_true,decide_eq_true_eq]at hs
 obtain⟨⟨⟨⟨h1,h2⟩,h3⟩,h4⟩,h5⟩:=hs
 obtain⟨i,hi⟩:∃i:Nat,-1-n.a=i:=⟨(-1-n.a).toNat,by omega⟩
 rw[hi,Int.toNat_natCast]at h4
 replace h4:regs[i]?=some .lst:=h4
 refine (doReturn_any _ K.gf i n 3 vd0 none none 0 0 (K.c at' (at'+1) gv (regs.map RD.sd)) w h.cal (lenR h) (by omega) h2 hi (by show (regs.map RD.sd)[i]?=_;rw[List.getElem?_map,h4];rfl)).mono ?_
 rintro e w1 ⟨gr,rfl,q0,q1,q2,q3⟩
 have q2':CallAt w1 K.gf (K.c at' (at'+1) gv ((regs.map RD.sd).set i RD.no.sd)):=q2
 rw[map_setR]at q2'
 exact⟨gr,regs.set i .no,rfl,Nat.le_trans h.bel.size q0,q1,h.call q3 q2' (by rw[List.length_set];exact h.lr)⟩
end
end Go.Proofs.YtjglgbepobmjhaaGreatDoor.M
