import Derived.Test.YtliahjnnbbgooaaGreatDoorP38
import Derived.Test.YtliahjnnbbgooaaGreatDoorP33
import Derived.Test.YtliahjnnbbgooaaGreatDoorP31
set_option linter.unusedVariables false
set_option linter.unusedSimpArgs false
set_option maxRecDepth 20000
set_option maxHeartbeats 8000000
namespace Go.Proofs.YtliahjnnbbgooaaGreatDoor.M
open Go.RowKit
section
variable {w0:World} {K:MK} {w w':World} {nt:Nat} {at' next:Int} {regs:List RD} {vs:List Value} {gs:List Nat} {tv gv:Value}
theorem MX.mf (h:MX w0 K w nt at' next regs vs gs tv gv):K.gm≠K.gf:=ne_ty h.mac h.cal (by decide)
theorem MX.call (h:MX w0 K w nt at' next regs vs gs tv gv) {at2 next2:Int} {regs2:List RD} (hb:ButL [K.gf] w w') (hc:CallAt w' K.gf (K.c at2 next2 gv (regs2.map RD.sd))) (hl:regs2.length=250):MX w0 K w' nt at2 next2 regs2 vs gs tv gv:=by
 obtain⟨s1,s2,s3,s4,s5⟩:=h.stay (hb.mono (fun g hg=>.inl (by simp at hg;subst hg;simp[wr])))
 exact⟨s1,h.geM,h.geF,h.mac.but hb (by simp;exact h.mf),hc,s2,s3,s4,ORow.butn h.gu hb (fun g e hg=>by simp at hg;subst hg;exact own_ne h.gu h.cal (by decide) e),ORow.butn h.tb hb (fun g e hg=>by simp at hg;subst hg;exact own_ne h.tb h.cal (by decide) e),s5,h.lg,hl⟩
theorem MX.guard (h:MX w0 K w nt at' next regs vs gs tv gv) {gv2:Value} {vs2:List Value} (hb:ButL (K.gf :: gv.ownBlock.toList) w w') (hc:CallAt w' K.gf (K.c at' next gv2 (regs.map RD.sd))) (hg:ORow w' w0.heap.size 277 1 vC gv2 vs2):MX w0 K w' nt at' next regs vs2 gs tv gv2:=by
 have hS:∀g∈K.gf :: gv.ownBlock.toList,g∈wr K tv gv:=fun g hg=>by
  simp only[List.mem_cons,Option.mem_toList]at hg
  simp only[wr,List.mem_cons,List.mem_append,Option.mem_toList]
  rcases hg with e | e
  ·exact .inr (.inl e)
  ·exact .inr (.inr (.inl e))
 obtain⟨s1,s2,s3,s4,s5⟩:=h.stay (hb.mono (fun g hg=>.inl (hS g hg)))
 refine⟨s1,h.geM,h.geF,h.mac.but hb ?_,hc,s2,s3,s4,hg,ORow.butn h.tb hb (fun g e hg=>?_),s5,h.lg,h.lr⟩
 ·simp only[List.mem_cons,Option.mem_toList,not_or]
  exact⟨h.mf,own_ne h.gu h.mac (by decide)⟩
 ·simp only[List.mem_cons,Option.mem_toList]at hg
  rcases hg with rfl | hg
  ·exact own_ne h.tb h.cal (by decide) e
  ·obtain⟨_,cur,h2⟩:=own_blk h.gu hg
   exact own_ne h.tb h2 (by decide) e
end
theorem flat_vC:∀xs:List Value,xs.flatMap vC=xs
 | []=>rfl
 | x :: xs=>by rw[List.flatMap_cons,flat_vC xs];rfl
theorem vrow_shrink {w:World} {B:Nat} {et:TypeId} {g cap:Nat} {xs:List Value} (h:ORow w B et 1 vC (.slice (some ⟨g,0,none⟩) xs.length cap) xs) {m:Nat} (hm:m≤xs.length):ORow w B et 1 vC (.slice (some ⟨g,0,none⟩) m cap) (xs.take m):=by
 have hl:(xs.take m).length=m:=by rw[List.length_take];omega
 obtain⟨h1,h2⟩:=h
 unfold ORow
 rw[hl,flat_vC]
 refine⟨by rw[hl];omega,?_⟩
 rcases h2 with ⟨e,_⟩ | ⟨g',c',cur,e,hb,hg,hl',hm',hs,ht⟩
 ·cases e
 ·injection e with e1 _ e3
  injection e1 with e1
  injection e1 with e1
  subst e1 e3
  refine .inr ⟨g,cap,cur,rfl,hb,hg,by omega,hm',hs,?_⟩
  rw[flat_vC]at ht
  rw[Nat.mul_one]at ht ⊢
  rw[←ht,List.take_take]
  congr 1
  omega
section
variable {w0:World} {K:MK} {w:World} {nt ng at':Nat} {regs:List RD} {vs:List Value} {gs:List Nat} {tv gv:Value} {n:ID} {s:PS}
theorem cf31 (args:Array Value) (W:World):(callFunc 73 args).run Tryz.prog W=.ok (.enter 73 args) W:=by kernel_rfl
theorem cf42 (args:Array Value) (W:World):(callFunc 83 args).run Tryz.prog W=.ok (.enter 83 args) W:=by kernel_rfl
theorem cf32 (args:Array Value) (W:World):(callFunc 74 args).run Tryz.prog W=.ok (.enter 74 args) W:=by kernel_rfl
theorem cf22 (args:Array Value) (W:World):(callFunc 67 args).run Tryz.prog W=.ok (.enter 67 args) W:=by kernel_rfl
theorem cf29 (args:Array Value) (W:World):(callFunc 71 args).run Tryz.prog W=.ok (.enter 71 args) W:=by kernel_rfl
end
end Go.Proofs.YtliahjnnbbgooaaGreatDoor.M
namespace Go.Proofs.YtliahjnnbbgooaaGreatDoor.J
open Go.RowKit M T U
attribute [local irreducible] R0
def GoJ (w0:World) (K:UK) (k a:Nat) (e:Ending) (w':World):Prop:=e=.returned .nilIface∧∃(tk:Nat) (xs:List RcD) (at2:Nat) (ax:Int) (rs:List M.SD) (gl:List (Nat × Int)) (rv gv tv:Value) (ts:List Nat),JX w0 K w' tk xs 0 ax (at2:Int) rs gl rv gv tv ts∧JP k w' at2 tk xs rs gl ts∧a<at2
def ThJ (w0:World) (K:UK) (k a:Nat) (e:Ending) (w':World):Prop:=∃gr,e=.returned (.iface 112 (.pointer (some ⟨gr,0,none⟩)))∧Calls Tryz.prog 103 #[.pointer (some ⟨K.gm,0,none⟩),.pointer (some ⟨K.gf,0,none⟩),.iface 112 (.pointer (some ⟨gr,0,none⟩))] w' (GoJ w0 K k a)
def endX (k:Nat):List RcD:=if k≤7 then [prR k] else [thR,caR,prT]
def ReJ (w0:World) (K:UK) (k:Nat) (e:Ending) (w':World):Prop:=∃gr,e=.returned (.iface 124 (.pointer (some ⟨gr,0,none⟩)))∧w0.heap.size≤gr∧w'.heap[gr]?=some (.cells #[.slice none 0 0] 126)∧∃(ax nx:Int) (rs:List M.SD) (rv gv tv:Value) (ts:List Nat),JX w0 K w' 1 (endX k) 0 ax nx rs [] rv gv tv ts
structure ConJ (w0:World) (K:UK):Prop where
 con:∃cb co ccap,K.c0.consts=.slice (some ⟨cb,co,none⟩) 2 ccap∧cb<w0.heap.size∧∀(j:Nat) v,[oneD,priD][j]?=some v→∀q u,v.cells[q]?=some u→w0.cell? ⟨cb,co+j*5+q,none⟩=some u
abbrev argj (K:UK) (i:ID):Array Value:=#[.pointer (some ⟨K.gm,0,none⟩),.pointer (some ⟨K.gf,0,none⟩),insV i]
section
variable {w0:World} {K:UK} {k a tk:Nat} {rs rs2:List M.SD} {gl:List (Nat × Int)} {i:ID} {w w1:World} {xs:List RcD} {rv gv tv:Value} {ts:List Nat}
theorem GoJ.call (ok:UKok w0 K) (h:JX w0 K w tk xs 0 (a:Int) ((a:Int)+1) rs gl rv gv tv ts) (hb:ButL [K.gf] w w1) (hc:CallAt w1 K.gf (K.c 0 a ((a:Int)+1) gv rs2)) (hl:rs2.length=250) (hp:JP k w1 (a+1) tk xs rs2 gl ts):GoJ w0 K k a (.returned .nilIface) w1 :=
 ⟨rfl,tk,xs,a+1,a,rs2,gl,rv,gv,tv,ts,h.call ok hb hc hl,hp,by omega⟩
theorem g4 (ok:UKok w0 K) (con:ConJ w0 K) (h:JX w0 K w tk xs 0 (a:Int) ((a:Int)+1) rs gl rv gv tv ts) (j:Nat) (v:VD) (hv:[oneD,priD][j]?=some v) (hP:∀w1,(∀g ys,LsAt w g ys→LsAt w1 g ys)→JP k w1 (a+1) tk xs (rs.set 3 (sdV v)) gl ts) :
  Calls Tryz.prog 54 (argj K ⟨4,3,j,0,0⟩) w (GoJ w0 K k a):=by
 obtain⟨cb,co,ccap,h1,h2,h3⟩:=con.con
 have hj:j<2:=(List.getElem?_eq_some_iff.1 hv).1
 have hlt:cb<w.heap.size:=Nat.lt_of_lt_of_le h2 h.bel.size
 refine (loadc_any _ K.gf 3 j cb co 2 ccap v ⟨4,3,j,0,0⟩ (K.c 0 a ((a:Int)+1) gv rs) w h.cal h.lr rfl rfl (by omega) rfl hj h1 hlt (fun q u hu=>cell_later h.bel (h3 j _ hv q u hu))).mono ?_
 rintro e w1 ⟨rfl,q1,q2⟩
 exact GoJ.call ok h q2 q1 (by rw[List.length_set];exact h.lr) (hP w1 (h.lsf ok q2))
theorem g22 (ok:UKok w0 K) (h:JX w0 K w tk xs 0 (a:Int) ((a:Int)+1) rs gl rv gv tv ts) (j:Nat) (hj:j<250) (hP:∀w1,(∀g ys,LsAt w g ys→LsAt w1 g ys)→JP k w1 (a+1) tk xs (rs.set j (sdL nilL)) gl ts) :
  Calls Tryz.prog 67 (argj K ⟨22,j,0,0,0⟩) w (GoJ w0 K k a):=by
 refine (doList_any _ K.gf j ⟨22,j,0,0,0⟩ (K.c 0 a ((a:Int)+1) gv rs) w h.cal h.lr hj rfl).mono ?_
 rintro e w1 ⟨rfl,q1,q2⟩
 exact GoJ.call ok h q2 q1 (by rw[List.length_set];exact h.lr) (hP w1 (h.lsf ok q2))
theorem g42 (ok:UKok w0 K) (h:JX w0 K w tk xs 0 (a:Int) ((a:Int)+1) rs gl rv gv tv ts) (hP:∀w1,JP k w1 (a+1) tk xs (rs.set 4 sd0) gl ts) :
  Calls Tryz.prog 83 (argj K ⟨42,4,0,0,0⟩) w (GoJ w0 K k a):=by
 refine (doDrop_any _ K.gf 4 ⟨42,4,0,0,0⟩ (K.c 0 a ((a:Int)+1) gv rs) w h.cal h.lr (by omega) rfl).mono ?_
 rintro e w1 ⟨rfl,q1,q2⟩
 exact GoJ.call ok h q2 q1 (by rw[List.length_set];exact h.lr) (hP w1)
theorem g23n (ok:UKok w0 K) (h:JX w0 K w tk xs 0 (a:Int) ((a:Int)+1) rs gl rv gv tv ts) (v:VD) (h3:rs[3]?=some (sdV v)) (h4:rs[4]?=some (sdL nilL)) (hP:∀w1 q cap,1≤cap→LsAt w1 q [v]→JP k w1 (a+1) tk xs ((rs.set 3 sd0).set 4 (sdL (.slice (some ⟨q,0,none⟩) 1 cap))) gl ts) :
  Calls Tryz.prog 68 (argj K ⟨23,4,-4,0,0⟩) w (GoJ w0 K k a):=by
 refine (doAdd_neg _ K.gf ⟨23,4,-4,0,0⟩ v (K.c 0 a ((a:Int)+1) gv rs) w h.cal h.lr rfl rfl rfl h3 h4).mono ?_
 rintro e w1 ⟨rfl,q,cap,q1,q2,_,q4,q5⟩
 exact GoJ.call ok h q5 q1 (by rw[List.length_set,List.length_set];exact h.lr) (hP w1 q cap q4 q2)
theorem g23p (ok:UKok w0 K) (h:JX w0 K w tk xs 0 (a:Int) ((a:Int)+1) rs gl rv gv tv ts) (v:VD) (h3:rs[0]?=some (sdV v)) (h4:rs[4]?=some (sdL nilL)) (hP:∀w1 q cap,1≤cap→LsAt w1 q [v]→JP k w1 (a+1) tk xs (rs.set 4 (sdL (.slice (some ⟨q,0,none⟩) 1 cap))) gl ts) :
  Calls Tryz.prog 68 (argj K ⟨23,4,0,0,0⟩) w (GoJ w0 K k a):=by
 refine (doAdd_pos _ K.gf ⟨23,4,0,0,0⟩ v (K.c 0 a ((a:Int)+1) gv rs) w h.cal h.lr rfl rfl rfl h3 h4).mono ?_
 rintro e w1 ⟨rfl,q,cap,q1,q2,_,q4,q5⟩
 exact GoJ.call ok h q5 q1 (by rw[List.length_set];exact h.lr) (hP w1 q cap q4 q2)
theorem g24 (ok:UKok w0 K) (h:JX w0 K w tk xs 0 (a:Int) ((a:Int)+1) rs gl rv gv tv ts) (q n cap:Nat) (ys:List VD) (h4:rs[4]?=some (sdL (.slice (some ⟨q,0,none⟩) n cap))) (hc:n≤cap) (hn0:0<n) (hn:n+n≤250) (hL:LsAt w q ys) (hy:ys.length=n) (hP:∀w1 q' cap',n+n≤cap'→LsAt w1 q' (ys++ys)→JP k w1 (a+1) tk xs (rs.set 4 (sdL (.slice (some ⟨q',0,none⟩) (n+n) cap'))) gl ts) :
  Calls Tryz.prog 68 (argj K ⟨24,4,4,0,0⟩) w (GoJ w0 K k a):=by
 refine (doJoin_go _ K.gf q n cap ⟨24,4,4,0,0⟩ ys (K.c 0 a ((a:Int)+1) gv rs) w h.cal h.lr rfl rfl rfl h4 hc hn0 hn hL hy).mono ?_
 rintro e w1 ⟨rfl,q',cap',q1,q2,_,q4,q5⟩
 exact GoJ.call ok h q5 q1 (by rw[List.length_set];exact h.lr) (hP w1 q' cap' q4 q2)
theorem g31 (ok:UKok w0 K) (h:JX w0 K w tk xs 0 (a:Int) ((a:Int)+1) rs [] rv gv tv ts) (z:Int) (hP:∀w1 g,JP k w1 (a+1) tk xs rs [(g,z)] ts) :
  Calls Tryz.prog 73 (argj K ⟨31,z,0,0,0⟩) w (GoJ w0 K k a):=by
 refine (doTry_any _ w0.heap.size K.gf ⟨31,z,0,0,0⟩ (K.c 0 a ((a:Int)+1) gv rs) [] w h.cal h.gu (by simp) h.bel.size).mono ?_
 rintro e w1 ⟨rfl,gv',gn,q1,q2,q3,q4,q5⟩
 have hgb:∀g∈[(gn,z)],w1.heap[g.1]?=some (Ct0 g.2):=by
  intro g hg
  simp only[List.mem_singleton]at hg
  subst hg
  exact q4
 exact⟨rfl,tk,xs,a+1,a,rs,[(gn,z)],rv,gv',tv,ts,h.guard ok (gl2:=[(gn,z)]) q5 q1 q2 (fun g hg=>.inr (hgb g hg)),hP w1 gn,by omega⟩
theorem g32 (ok:UKok w0 K) (g:Nat × Int) (h:JX w0 K w tk xs 0 (a:Int) ((a:Int)+1) rs [g] rv gv tv ts) (hP:∀w1,JP k w1 (a+1) tk xs rs [] ts) :
  Calls Tryz.prog 74 (argj K ⟨32,0,0,0,0⟩) w (GoJ w0 K k a):=by
 obtain⟨ga,cap,hgv,hge,hcap,_,_,_⟩:=h.gu.open vC_len (by simp)
 have hgv1:gv=.slice (some ⟨ga,0,none⟩) (0+1) cap:=hgv
 refine (doEndTry_any _ K.gf 0 cap (some ⟨ga,0,none⟩) ⟨32,0,0,0,0⟩ (K.c 0 a ((a:Int)+1) gv rs) w h.cal hgv1 (by simpa using hcap) (by omega)).mono ?_
 rintro e w1 ⟨rfl,q1,q2⟩
 have hg1:=ORow.butn h.gu q2 (fun g e hg=>by simp at hg;subst hg;exact own_ne h.gu h.cal (by decide) e)
 have hg2:ORow w1 w0.heap.size 277 1 vC (.slice (some ⟨ga,0,none⟩) [caV g.1].length cap) [caV g.1]:=by rw[hgv1]at hg1;exact hg1
 exact⟨rfl,tk,xs,a+1,a,rs,[],rv,.slice (some ⟨ga,0,none⟩) 0 cap,tv,ts,h.guard ok (gl2:=[]) (q2.mono (fun g hg=>.inl (by simp at hg;subst hg;simp))) q1 (vrow_shrink hg2 (m:=0) (by omega)) (fun g hg=>by cases hg),hP w1,by omega⟩
theorem g29 (ok:UKok w0 K) (h:JX w0 K w 1 (endX k) 0 (a:Int) ((a:Int)+1) rs [] rv gv tv ts) (h3:rs[3]?=some (sdL nilL)) :
  Calls Tryz.prog 71 (argj K ⟨29,-4,0,0,0⟩) w (ReJ w0 K k):=by
 refine (doReturn_any _ K.gf 3 ⟨29,-4,0,0,0⟩ 3 vd0 none none 0 0 (K.c 0 a ((a:Int)+1) gv rs) w h.cal h.lr (by omega) (by decide) (by decide) h3).mono ?_
 rintro e w1 ⟨gr,rfl,q1,q2,q3,q4⟩
 exact⟨gr,rfl,Nat.le_trans h.bel.size q1,q2,_,_,_,_,_,_,_,h.call ok q4 (ln2:=0) (at2:=a) (next2:=(a:Int)+1) q3 (by rw[List.length_set];exact h.lr)⟩
end
end Go.Proofs.YtliahjnnbbgooaaGreatDoor.J
namespace Go.Proofs.YtliahjnnbbgooaaGreatDoor.J
open Go.RowKit M T U
attribute [local irreducible] R0
theorem LsAt.sla {w:World} {q:Nat} {ys:List VD} (h:LsAt w q ys):SlA w 5 VD.cells (some ⟨q,0,none⟩) ys:=by
 intro i x hi
 refine⟨q,0,rfl,h.lt,fun j v hv=>?_⟩
 rw[Nat.zero_add]
 exact h.cell (flat_at VD.cells 5 ys i j x v (fun y _=>rfl) hi hv)
section
variable {w0:World} {K:UK} {k a:Nat} {rs:List M.SD} {gl:List (Nat × Int)} {w:World} {xs:List RcD} {rv gv tv:Value} {ts:List Nat}
theorem g28 (ok:UKok w0 K) (hT:K.m0.ticks=9) (h:JX w0 K w 0 xs 0 (a:Int) ((a:Int)+1) rs gl rv gv tv ts) (q n cap:Nat) (ys:List VD) (tx:VD→ByteArray) (line:ByteArray)
  (h3:rs[3]?=some (sdV priD)) (h4:rs[4]?=some (sdL (.slice (some ⟨q,0,none⟩) n cap))) (hn:ys.length=n) (hn1:n≤250) (hL:LsAt w q ys) (hxs:xs.length<1000)
  (HT:∀x∈ys,∀W,Calls Tryz.prog 34 #[.agg #[.int .i64 x.k,.int .i64 x.n,.float .f64 x.f,.string x.s,.int .i64 x.r]] W fun e w'=>e=.returned (.string (tx x))∧Below W.heap.size W w')
  (HJ:∀B W a' cap',ORow W B 9 1 sC (.slice a' n cap') (ys.map tx)→Calls Tryz.prog 168 #[.slice a' n cap',.string ⟨#[32]⟩] W fun e w'=>e=.returned (.string line)∧Below W.heap.size W w')
  (hl:line.size≤4000) (hP:∀w1,JP k w1 (a+1) 1 (xs++[⟨6,0,line⟩]) (((rs.set 3 sd0).set 4 sd0).set 4 (sdL nilL)) gl ts) :
  Calls Tryz.prog 70 (argj K ⟨28,4,-4,-5,0⟩) w (GoJ w0 K k a):=by
 have hrl:((rs.set 3 sd0).set 4 sd0).length=250:=by rw[List.length_set,List.length_set];exact h.lr
 have hgm:=blk_lt h.mac
 have hrv:∀g,rv.ownBlock=some g→g<w.heap.size:=fun g e=>(ORow.own_lt h.rc e).2
 refine (doCallp_any K.gm K.gf n cap (some ⟨q,0,none⟩) ⟨28,4,-4,-5,0⟩ (mt K 0 rv tv) (K.c 0 a ((a:Int)+1) gv rs) (fun m' w3=>∃rv',m'=mt K (1:Nat) rv' tv∧JX w0 K w3 1 (xs++[⟨6,0,line⟩]) 0 (a:Int) ((a:Int)+1) ((rs.set 3 sd0).set 4 sd0) gl rv' gv tv ts) w h.mac h.cal h.lr rfl rfl rfl h3 h4 (fun W hm hc hb=>?_)).mono ?_
 ·have hW:=h.call ok hb (ln2:=0) (at2:=a) (next2:=(a:Int)+1) hc hrl
  have hLW:LsAt W q ys:=h.lsf ok hb q ys hL
  refine (callp_any K.gm n cap (some ⟨q,0,none⟩) (mt K 0 rv tv) .nilIface (fun w'=>(∃rv',JX w0 K w' 1 (xs++[⟨6,0,line⟩]) 0 (a:Int) ((a:Int)+1) ((rs.set 3 sd0).set 4 sd0) gl rv' gv tv ts)∧∀q o,w.heap.size≤q→W.heap[q]?=some o→w'.heap[q]?=some o) W hm (by show (0:Int)<K.m0.ticks;omega) (Int.le_refl _) (by show K.m0.ticks≤100000;omega) (fun W2 hm2 hb2=>?_)).mono ?_
  ·have hW2:JX w0 K W2 1 xs 0 (a:Int) ((a:Int)+1) ((rs.set 3 sd0).set 4 sd0) gl rv gv tv ts:=hW.mach ok (tk2:=1) hb2 hm2
   have hL2:LsAt W2 q ys:=hLW.but hb2 (by simp;exact hLW.ne hm (by decide))
   refine (print_any K.gm K.gt K.gc K.gf n cap (some ⟨q,0,none⟩) ys tx line (mt K (1:Nat) rv tv) (K.c 0 a ((a:Int)+1) gv ((rs.set 3 sd0).set 4 sd0)) .nilIface (fun wk w'=>∃rv',MachAt w' K.gm (mt K (1:Nat) rv' tv)∧ORow w' w0.heap.size 67 5 rgC rv' (xs++[⟨6,0,line⟩])∧ButL (K.gm :: rv.ownBlock.toList) wk w') W2 hW2.mac ok.run (hW2.tka ok) hW2.cal ok.pro rfl hL2.sla hn hn1 HT (fun W a' cap' ho=>HJ _ W a' cap' ho) hl (fun wk hwk=>?_)).mono ?_
   ·have hx:=hW2.later ok hwk
    exact recg_go w0.heap.size K.gm ⟨6,0,line⟩ (mt K (1:Nat) rv tv) xs wk hx.mac ok.wat hx.rc (by omega) hx.bel.size
   ·rintro e w' ⟨rfl,wk,hwk,rv',r1,r2,r3⟩
    have hx:=hW2.later ok hwk
    refine⟨rfl,⟨rv',hx.recd ok r3 r1 r2⟩,fun q o hq ho=>?_⟩
    have h1:W2.heap[q]?=some o:=hb2.blk ho (by simp;omega)
    have h2:wk.heap[q]?=some o:=blk_later hwk h1
    refine r3.blk h2 ?_
    simp only[List.mem_cons,Option.mem_toList,not_or]
    exact⟨by omega,fun e=>by have:=hrv _ e;omega⟩
  ·rintro e w' ⟨rfl,⟨rv',hx⟩,hk⟩
   exact⟨rfl,_,hx.mac,hx.cal,⟨rv',rfl,hx⟩,hk⟩
 ·rintro e w' ⟨rfl,m',w3,q1,q2,⟨rv',rfl,hx⟩,q4⟩
  exact⟨rfl,1,_,a+1,a,_,gl,rv',gv,tv,ts,hx.call ok q4 (ln2:=0) (at2:=a) (next2:=(a:Int)+1) q2 (by rw[List.length_set];exact hrl),hP w',by omega⟩
end
end Go.Proofs.YtliahjnnbbgooaaGreatDoor.J
namespace Go.Proofs.YtliahjnnbbgooaaGreatDoor.J
open Go.RowKit M T U
attribute [local irreducible] R0
theorem ErT.but {S:List Nat} {w w':World} {gn:Nat} (h:ErT w gn) (hb:ButL S w w') (hS:∀q∈S,∃a t,w.heap[q]?=some (.cells a t)∧(t=97∨t=152∨t=277∨t=67)):ErT w' gn:=by
 obtain⟨bk,B,mb,sv,h1,h2⟩:=h.ex
 have hn:∀(q:Nat) (b:Array Value) (u:TypeId),w.heap[q]?=some (.cells b u)→u≠97→u≠152→u≠277→u≠67→q∉S:=by
  intro q b u hq n1 n2 n3 n4 hm
  obtain⟨a,t,ht,hc⟩:=hS q hm
  rw[hq]at ht
  injection ht with ht
  injection ht with _ ht
  subst ht
  rcases hc with e | e | e | e
  ·exact n1 e
  ·exact n2 e
  ·exact n3 e
  ·exact n4 e
 refine⟨bk,B,mb,sv,hb.blk h1 (hn _ _ _ h1 (by decide) (by decide) (by decide) (by decide)),hb.blk h2.head (hn _ _ _ h2.head (by decide) (by decide) (by decide) (by decide)),ORow.butn h2.row hb (fun g e=>?_),MapAt.butl hb (fun hm=>?_) h2.map,h2.ge⟩
 ·obtain⟨cur,hc⟩:=ORow.ty h2.row e
  exact hn _ _ _ hc (by decide) (by decide) (by decide) (by decide)
 ·obtain⟨a,t,ht,_⟩:=hS mb hm
  exact map_ne ht h2.map rfl
section
variable {w0:World} {K:UK} {k a tk:Nat} {rs:List M.SD} {gl:List (Nat × Int)} {w w':World} {xs:List RcD} {ln ax nx:Int} {rv gv tv:Value} {ts:List Nat}
theorem JX.tabs (ok:UKok w0 K) (h:JX w0 K w tk xs ln ax nx rs gl rv gv tv ts) {tv2:Value} {ts2:List Nat} (hb:ButL [K.gm] w w') (hm:MachAt w' K.gm (mt K tk rv tv2)) (ht:ORow w' w0.heap.size 249 1 pC tv2 ts2) (hn:ts2=[]→tv2.ownBlock=none):JX w0 K w' tk xs ln ax nx rs gl rv gv tv2 ts2:=by
 have hx:∀(q:Nat) (b:Array Value) (u:TypeId),w.heap[q]?=some (.cells b u)→u≠97→w'.heap[q]?=some (.cells b u):=fun q b u hq hu=>hb.blk hq (by simp;exact blk_ne hq h.mac hu)
 refine⟨hb.below h.bel (fun g hg=>by simp at hg;subst hg;exact ok.geM) h.bel.size,hm,hx _ _ _ h.cal (by decide),hx _ _ _ h.tsk (by decide),hx _ _ _ h.cro (by decide),hx _ _ _ h.row (by decide),hb.blk h.cha (fun e=>?_),ORow.butn h.gu hb (fun g e hg=>by simp at hg;subst hg;exact own_ne h.gu h.mac (by decide) e),fun g hg=>hx _ _ _ (h.gb g hg) (by decide),ORow.butn h.rc hb (fun g e hg=>by simp at hg;subst hg;exact own_ne h.rc h.mac (by decide) e),h.lr,ht,hn⟩
 simp at e
 have h1:=h.cha
 rw[e,show w.heap[K.gm]?=_ from h.mac]at h1
 cases h1
theorem told_err {gn:Nat} {W:World} {m:MachD} {ts2:List Nat} (hm:MachAt W K.gm m) (ho:ORow W w0.heap.size 249 1 pC m.tables [gn]) (he:ErT W gn):Calls Tryz.prog 35 #[.pointer (some ⟨K.gm,0,none⟩),.agg #[.int .i64 errD.k,.int .i64 errD.n,.float .f64 errD.f,.string errD.s,.int .i64 errD.r]] W fun e w'=>e=.returned (.string err4)∧Below W.heap.size W w' :=
 told_tab (.pointer (some ⟨K.gm,0,none⟩)) 0 W (fun W2 hW2=>by
  obtain⟨bk,B,mb,sv,e1,e2⟩:=(he.later hW2).ex
  exact entry_tab w0.heap.size K.gm 0 gn bk B mb 0 sv errDs 2 ⟨strD codeS,intD 4,1⟩ m [gn] codeS W2 (hm.later hW2) (ORow.later ho hW2) rfl e1 (by simp) e2 eidx_code rfl (by decide))
theorem hc0_eq (K:UK) (l a n hd:Int) (g:Value) (r:List M.SD):hc0 (K.c l a n g r) hd=K.c 0 hd hd g (List.replicate 250 sd0):=rfl
theorem caught (ok:UKok w0 K) (gn gt gr hd:Nat) (tr:ByteArray) (h:JX w0 K w 0 [thR] 0 ax nx rs [(gn,(hd:Int))] rv gv tv [gt]) (he:ErT w gt) (hth:w.heap[gr]?=some (ThG errD tr)) (ha:a<hd) (hP:∀w1,JP k w1 hd 0 [thR,caR] (Hb tr) [] [gt]) :
  Calls Tryz.prog 103 #[.pointer (some ⟨K.gm,0,none⟩),.pointer (some ⟨K.gf,0,none⟩),.iface 112 (.pointer (some ⟨gr,0,none⟩))] w (GoJ w0 K k a):=by
 obtain⟨ga,cap,hgv,hga,_,hsl,_,hcap⟩:=h.gu.open vC_len (by simp)
 have hgc:w.cell? ⟨ga,0,none⟩=some (caV gn):=by
  obtain⟨b9,o9,e9,_,hc9⟩:=hsl 0 _ rfl
  have e3:ga=b9∧0=o9:=by injection e9 with e9;injection e9 with e9 e2;exact⟨e9,e2⟩
  obtain⟨rfl,rfl⟩:=e3
  exact hc9 0 _ rfl
 have hgv1:gv=.slice (some ⟨ga,0,none⟩) 1 cap:=hgv
 have hgu0:ORow w w0.heap.size 277 1 vC (.slice (some ⟨ga,0,none⟩) 0 cap) []:=by
  have hq:ORow w w0.heap.size 277 1 vC (.slice (some ⟨ga,0,none⟩) [caV gn].length cap) [caV gn]:=by have h9:=h.gu;rw[hgv1]at h9;exact h9
  exact vrow_shrink hq (m:=0) (by omega)
 have hcap1:1≤cap:=by
  have h9:=h.gu
  rw[hgv1]at h9
  rcases h9.2 with ⟨e9,_⟩ | ⟨g9,c9,cur,e9,_,_,hl9,_⟩
  ·cases e9
  ·have e8:cap=c9:=by injection e9 with _ _ e9
   have h8:1≤c9:=by simpa using hl9
   omega
 have hgnb:=h.gb (gn,(hd:Int)) (by simp)
 have hX2:∀w2,ButL [K.gf] w w2→CallAt w2 K.gf (K.c 0 ax nx (.slice (some ⟨ga,0,none⟩) 0 cap) rs)→JX w0 K w2 0 [thR] 0 ax nx rs [] rv (.slice (some ⟨ga,0,none⟩) 0 cap) tv [gt]:=fun w2 hb2 hc2 =>
  h.guard ok (hb2.mono (fun g hg=>.inl (by simp at hg;subst hg;simp))) hc2 (ORow.butn hgu0 hb2 (fun g e hg=>by simp at hg;subst hg;exact own_ne hgu0 h.cal (by decide) e)) (fun g hg=>by cases hg)
 refine (leave_catch K.gm K.gf gn gr ga cap (some K.ov) (K.c 0 ax nx gv rs) .nilIface (fun w2 w'=>∃wk w5,ButL [K.gf] w2 wk∧CallAt wk K.gf (K.c 0 hd hd (.slice (some ⟨ga,0,none⟩) 0 cap) (List.replicate 250 sd0))∧(∃rv2,MachAt w5 K.gm (mt K (0:Nat) rv2 tv)∧ORow w5 w0.heap.size 67 5 rgC rv2 ([thR]++[caR])∧ButL (K.gm :: rv.ownBlock.toList) wk w5)∧CallAt w' K.gf (K.c 0 hd hd (.slice (some ⟨ga,0,none⟩) 0 cap) (((List.replicate 250 sd0).set 0 (sdV errD)).set 1 (sdV (strD tr))))∧ButL [K.gf] w5 w') w h.cal hgv1 hcap1 hgc (ok.ovr.later h.bel) (fun w2 hb2 hc2=>?_)).mono ?_
 ·have hx2:=hX2 w2 hb2 hc2
  have hth2:w2.heap[gr]?=some (ThG errD tr):=hb2.blk hth (by simp;exact ne_ty hth h.cal (by decide))
  have hgn2:w2.heap[gn]?=some (Ct0 (hd:Int)):=hb2.blk hgnb (by simp;exact ne_ty hgnb h.cal (by decide))
  have he2:ErT w2 gt:=he.but hb2 (fun q hq=>by simp at hq;subst hq;exact⟨_,_,h.cal,.inr (.inl rfl)⟩)
  refine (handle0_go K.gm K.gt K.gc K.gf gn gr (hd:Int) errD err4 tr (mt K (0:Nat) rv tv) (K.c 0 ax nx (.slice (some ⟨ga,0,none⟩) 0 cap) rs) _ _ (K.gm :: rv.ownBlock.toList) (fun wk w5=>∃rv2,MachAt w5 K.gm (mt K (0:Nat) rv2 tv)∧ORow w5 w0.heap.size 67 5 rgC rv2 ([thR]++[caR])∧ButL (K.gm :: rv.ownBlock.toList) wk w5) w2 hx2.mac ok.run (hx2.tka ok) hx2.tsk hx2.cro hx2.cal hx2.lr ok.pro hgn2 hth2 ?_ ?_ ?_ (fun W hW=>?_) (fun wk hbk hck=>?_)).mono ?_
  ·simp only[List.mem_cons,Option.mem_toList,not_or]
   exact⟨hx2.mf.symm,own_ne hx2.rc hx2.cal (by decide)⟩
  ·simp only[List.mem_cons,Option.mem_toList,not_or]
   exact⟨ne_ty hgn2 hx2.mac (by decide),own_ne hx2.rc hgn2 (by decide)⟩
  ·simp only[List.mem_cons,Option.mem_toList,not_or]
   exact⟨ne_ty hth2 hx2.mac (by decide),own_ne hx2.rc hth2 (by decide)⟩
  ·exact told_err (w0:=w0) (ts2:=[]) (hx2.mac.but hW (by simp;exact hx2.mf)) (ORow.butn hx2.tb hW (fun g e hg=>by simp at hg;subst hg;exact own_ne hx2.tb hx2.cal (by decide) e)) (he2.but hW (fun q hq=>by simp at hq;subst hq;exact⟨_,_,hx2.cal,.inr (.inl rfl)⟩))
  ·rw[hc0_eq]at hck
   have hxk2:=hx2.call ok hbk hck List.length_replicate
   refine (recg_go w0.heap.size K.gm caR (mt K (0:Nat) rv tv) [thR] wk hxk2.mac ok.wat hxk2.rc (by simp) hxk2.bel.size).mono ?_
   rintro e w' ⟨rfl,rv',p1,p2,p3⟩
   exact⟨rfl,p3,rv',p1,p2,p3⟩
  ·rintro e w' ⟨rfl,wk2,w5,p1,p2,p3,p4,p5,p6⟩
   rw[hc0_eq]at p2 p5
   exact⟨rfl,wk2,w5,p1,p2,p4,p5,p6⟩
 ·rintro e w' ⟨rfl,w2,hb2,hc2,wk2,w5,p1,p2,⟨rv2,p3,p4,p5⟩,p6,p7⟩
  have hx2:=hX2 w2 hb2 hc2
  have hx3:=hx2.call ok p1 p2 List.length_replicate
  have hx4:JX w0 K w5 0 ([thR]++[caR]) 0 (hd:Int) (hd:Int) (List.replicate 250 sd0) [] rv2 (.slice (some ⟨ga,0,none⟩) 0 cap) tv [gt]:=hx3.recd ok p5 p3 p4
  have hx5:=hx4.call ok p7 p6 (by rw[List.length_set,List.length_set];exact List.length_replicate)
  refine⟨rfl,0,[thR,caR],hd,hd,Hb tr,[],rv2,.slice (some ⟨ga,0,none⟩) 0 cap,tv,[gt],?_,hP w',ha⟩
  have:Hb tr=((List.replicate 250 sd0).set 0 (sdV errD)).set 1 (sdV (strD tr)):=by unfold Hb R0;rfl
  rw[this]
  exact hx5
theorem g24x (ok:UKok w0 K) (gn hd q n cap:Nat) (h:JX w0 K w 0 [] 0 (a:Int) ((a:Int)+1) rs [(gn,(hd:Int))] rv gv tv []) (h4:rs[4]?=some (sdL (.slice (some ⟨q,0,none⟩) n cap))) (hc:n≤cap) (hn0:250<n+n) (hn:n≤1000) (ha:a<hd) (hP:∀w1 tr gt,JP k w1 hd 0 [thR,caR] (Hb tr) [] [gt]) :
  Calls Tryz.prog 68 (argj K ⟨24,4,4,0,0⟩) w (ThJ w0 K k a):=by
 refine doJoin_long K.gm K.gf q n cap ⟨24,4,4,0,0⟩ (K.c 0 a ((a:Int)+1) gv rs) _ w h.cal h.lr rfl rfl rfl h4 hc hn0 hn (fun wk hb hck=>?_)
 have hrl:(rs.set 4 (sdL (.slice (some ⟨q,0,none⟩) n n))).length=250:=by rw[List.length_set];exact h.lr
 have hk:=h.call ok hb (ln2:=0) (at2:=a) (next2:=(a:Int)+1) hck hrl
 have hS:∀W,ButL (K.gm :: (mt K (0:Nat) rv tv).tables.ownBlock.toList) wk W→ButL [K.gm] wk W:=fun W hW=>hW.mono (fun g hg=>.inl (by
  have e:(mt K (0:Nat) rv tv).tables.ownBlock=none:=h.tn rfl
  rw[e]at hg
  simpa using hg))
 refine (fail_any K.gm K.gt K.gc K.gf K.bp K.op K.capP w0.heap.size (mt K (0:Nat) rv tv) (K.c 0 a ((a:Int)+1) gv (rs.set 4 (sdL (.slice (some ⟨q,0,none⟩) n n)))) [] (fun wk2 w'=>∃tv2 gt rv1,JX w0 K wk2 0 [] 0 (a:Int) ((a:Int)+1) (rs.set 4 (sdL (.slice (some ⟨q,0,none⟩) n n))) [(gn,(hd:Int))] rv gv tv2 [gt]∧JX w0 K w' 0 [thR] 0 (a:Int) ((a:Int)+1) (rs.set 4 (sdL (.slice (some ⟨q,0,none⟩) n n))) [(gn,(hd:Int))] rv1 gv tv2 [gt]∧ErT w' gt∧ButL (K.gm :: rv.ownBlock.toList) wk2 w') wk hk.mac hk.tb (by simp) hk.bel.size (fun tv2 W hm hbW=>?_) (fun tv2 gt wk2 hm ho he hbW=>?_)).mono ?_
 ·have hbx:=hS W hbW
  have hx:∀(q:Nat) (b:Array Value) (u:TypeId),wk.heap[q]?=some (.cells b u)→u≠97→W.heap[q]?=some (.cells b u):=fun q b u hq hu=>hbx.blk hq (by simp;exact blk_ne hq hk.mac hu)
  have hts:=hx _ _ _ hk.tsk (by decide)
  have hcr:=hx _ _ _ hk.cro (by decide)
  exact⟨hm,ok.run,⟨⟨K.cc,by rw[blk_cell hts];rfl,ok.cc1⟩,by rw[blk_cell hts];rfl,by rw[blk_cell hcr];exact ok.ca0⟩,hx _ _ _ hk.cal (by decide),ok.pro,rfl,ok.prs,cell_later (hbx.below hk.bel (fun g hg=>by simp at hg;subst hg;exact ok.geM) hk.bel.size) ok.nam⟩
 ·have hx:=hk.tabs ok (hS wk2 hbW) hm ho (fun e=>by simp at e)
  refine (recg_go w0.heap.size K.gm thR (mt K (0:Nat) rv tv2) [] wk2 hx.mac ok.wat hx.rc (by simp) hx.bel.size).mono ?_
  rintro e w' ⟨rfl,rv1,p1,p2,p3⟩
  have hsub:=hx.sub p3 (fun g hg=>by
   simp only[List.mem_cons]at hg
   simp only[twr,List.mem_cons,List.mem_append]
   rcases hg with e | e
   ·exact .inl e
   ·exact .inr (.inr (.inr e)))
  exact⟨rfl,tv2,gt,rv1,hx,hx.recd ok p3 p1 p2,he.but hsub (fun q hq=>(hx.wrTy ok q hq).2),p3⟩
 ·rintro e w' ⟨gr,tr,wk2,_,_,rfl,hgr,hth,_,_,_,_,tv2,gt,rv1,hx,hx1,he,p3⟩
  have hsub:=hx.sub p3 (fun g hg=>by
   simp only[List.mem_cons]at hg
   simp only[twr,List.mem_cons,List.mem_append]
   rcases hg with e | e
   ·exact .inl e
   ·exact .inr (.inr (.inr e)))
  have hth1:w'.heap[gr]?=some (ThG errD tr):=hx.keep ok hsub hth (by decide) (by decide) (by decide) (by decide)
  exact⟨gr,rfl,gr,rfl,caught ok gn gt gr hd tr hx1 he hth1 ha (fun w1=>hP w1 tr gt)⟩
end
end Go.Proofs.YtliahjnnbbgooaaGreatDoor.J
namespace Go.Proofs.YtliahjnnbbgooaaGreatDoor.U
open Go.RowKit
def cirB (kind:Nat):Nat:=if kind=7∨kind=8 then 4 else if 10≤kind then 3 else 2
def cirP (kind:Nat):List ID:=⟨4,0,0,0,0⟩ :: ⟨4,1,1,0,0⟩ :: if kind=7∨kind=8 then [⟨5,2,1,0,0⟩,⟨40,2,0,0,0⟩] else if 10≤kind then [⟨12,2,0,0,0⟩] else []
def cirM (b:Nat):Nat→List ID
 | 0=>[]
 | 1=>[⟨1,3,0,0,0⟩]
 | 2=>[⟨3,0,0,0,0⟩]
 | 3=>[⟨22,4,0,0,0⟩,⟨28,4,1,-5,0⟩,⟨42,4,0,0,0⟩]
 | 4=>[⟨18,4,12,0,0⟩,⟨42,4,0,0,0⟩]
 | 5=>[⟨18,4,13,0,0⟩,⟨42,4,0,0,0⟩]
 | 6=>[⟨31,((b+2:Nat):Int),4,0,0⟩,⟨30,0,0,0,0⟩,⟨42,4,0,0,0⟩,⟨42,5,0,0,0⟩]
 | 7=>[⟨41,2,((b+3:Nat):Int),4,0⟩,⟨42,4,0,0,0⟩]
 | 8=>[⟨41,2,((b+2:Nat):Int),4,0⟩,⟨42,4,0,0,0⟩]
 | 9=>[⟨3,0,0,0,0⟩,⟨31,((b+3:Nat):Int),4,0,0⟩,⟨30,0,0,0,0⟩,⟨42,4,0,0,0⟩,⟨42,5,0,0,0⟩]
 | 10=>[⟨15,4,2,0,0⟩,⟨42,4,0,0,0⟩]
 | 11=>[⟨16,2,0,0,0⟩]
 | _=>[⟨17,4,22,0,0⟩,⟨42,4,0,0,0⟩]
def cirE (kind:Nat):List ID:=if kind=7 then [⟨22,4,0,0,0⟩,⟨29,-5,0,0,0⟩] else []
def cirI (kind n:Nat):List ID:=cirP kind++(List.replicate n ⟨5,0,0,0,0⟩++(cirM (cirB kind+n) kind++(⟨19,((cirB kind:Nat):Int),0,0,0⟩ :: cirE kind)))
def nothing:VD:=⟨4,0,0,⟨#[]⟩,0⟩
def texter:VD:=⟨8,3,0,⟨#[]⟩,0⟩
def cirT:Nat→Bool
 | 1=>true
 | 2=>true
 | 3=>true
 | 4=>true
 | 7=>true
 | 9=>true
 | _=>false
def cirX (kind n:Nat):Nat:=if kind=3 then cirB kind+n+1 else cirB kind+n
def cirJ (kind n:Nat):Nat:=cirB kind+n+(cirM (cirB kind+n) kind).length
def edgeB (E:Nat→List Nat) (p:Nat→Nat→Bool) (L:Nat):Bool:=(List.range L).all fun i=>(E i).all fun y=>p i y
theorem edge_at {E:Nat→List Nat} {p:Nat→Nat→Bool} {L:Nat} (h:edgeB E p L=true) {x:Nat} (hx:x<L) {y:Nat} (hy:y∈E x):p x y=true:=by
 unfold edgeB at h
 simp only[List.all_eq_true,List.mem_range]at h
 exact h x hx y hy
theorem edge_out {d:FD} {x:Nat} (hx:d.ins.length≤x) {y:Nat} (hy:y∈EE d x):y=x+1:=by
 unfold EE at hy
 rw[List.getD_eq_getElem?_getD,List.getElem?_eq_none_iff.2 hx]at hy
 simpa [silS,id0] using hy
end Go.Proofs.YtliahjnnbbgooaaGreatDoor.U
