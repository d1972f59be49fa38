import Derived.Test.YtliahjnnbbgooaaGreatDoorP31
import Derived.Test.YtliahjnnbbgooaaGreatDoorP29
set_option linter.unusedVariables false
set_option linter.unusedSimpArgs false
set_option maxRecDepth 20000
set_option maxHeartbeats 8000000
namespace Go.Proofs.YtliahjnnbbgooaaGreatDoor.M
open Go.RowKit
attribute [local go_sem] run_store_float
theorem mk_chan (W:World):(Instr.makeChan 111 (.int .i64 0)).run Tryz.prog W=.ok (.chan (some W.heap.size)) (W.alloc (.chan 0 #[] false 0 0 false)):=by kernel_rfl
def taskA (calls:Value) (gch:Nat) (st:Int):Array Value:=#[.int .i64 0,.int .i64 0,.int .i64 st,.int .i64 0,.int .i64 0,.float .f64 0,.string ⟨#[]⟩,.int .i64 0,calls,.chan (some gch),.pointer none,.bool false,.pointer none,.slice none 0 0]
theorem newTask_any (g:Nat) (m:MachD) (w:World) (h:MachAt w g m) (ht:m.tasks=.slice none 0 0) :
  Calls Tryz.prog 30 #[.pointer (some ⟨g,0,none⟩),.agg #[.int .i64 0,.int .i64 0,.float .f64 0,.string ⟨#[]⟩,.int .i64 0]] w fun e w'=>∃gt gk gch cap,e=.returned (.pointer (some ⟨gt,0,none⟩))∧MachAt w' g { m with tasks:=.slice (some ⟨gk,0,none⟩) 1 cap }∧w'.heap[gt]?=some (.cells (taskA (.slice none 0 0) gch 0) 115)∧w'.heap[gch]?=some (.chan 0 #[] false 0 0 false)∧w.heap.size≤gt∧w.heap.size≤gch∧ORow w' w.heap.size 85 1 pC (.slice (some ⟨gk,0,none⟩) 1 cap) [gt]∧ButL [g] w w':=by
 have hmk:=mk_chan
 have hgl:=blk_lt h
 obtain⟨W,hW⟩:∃W,w.alloc (.cells #[.int .i64 0,.int .i64 0,.float .f64 0,.string ⟨#[]⟩,.int .i64 0] 49)=W:=⟨_,rfl⟩
 have hb:=bw1 w (.cells #[.int .i64 0,.int .i64 0,.float .f64 0,.string ⟨#[]⟩,.int .i64 0] 49)
 have bn:=blk_new w (.cells #[.int .i64 0,.int .i64 0,.float .f64 0,.string ⟨#[]⟩,.int .i64 0] 49)
 have hsz:W.heap.size=w.heap.size+1:=by rw[←hW];simp
 rw[hW]at hb bn
 have hm:=h.later hb
 have c74:W.cell? ⟨g,74,none⟩=some (.slice none 0 0):=by rw[hm.cell,←ht];rfl
 have d0:W.cell? ⟨w.heap.size,0,none⟩=some (.int .i64 0):=by rw[blk_cell bn];rfl
 have d1:W.cell? ⟨w.heap.size,1,none⟩=some (.int .i64 0):=by rw[blk_cell bn];rfl
 have d2:W.cell? ⟨w.heap.size,2,none⟩=some (.float .f64 0):=by rw[blk_cell bn];rfl
 have d3:W.cell? ⟨w.heap.size,3,none⟩=some (.string ⟨#[]⟩):=by rw[blk_cell bn];rfl
 have d4:W.cell? ⟨w.heap.size,4,none⟩=some (.int .i64 0):=by rw[blk_cell bn];rfl
 have hc1:=bw1 W (.chan 0 #[] false 0 0 false)
 have e0:=cell_later hc1 d0
 have e1:=cell_later hc1 d1
 have e2:=cell_later hc1 d2
 have e3:=cell_later hc1 d3
 have e4:=cell_later hc1 d4
 have e5:=cell_later hc1 c74
 clear hc1
 obtain⟨W1,hW1⟩:∃W1,((W.alloc (.chan 0 #[] false 0 0 false)).alloc (.cells #[.int .i64 0,.int .i64 0,.int .i64 0,.int .i64 0,.int .i64 0,.float .f64 0,.string ⟨#[]⟩,.int .i64 0,.slice none 0 0,.chan (some (w.heap.size+1)),.pointer none,.bool false,.pointer none,.slice none 0 0] 115)).drew=W1:=⟨_,rfl⟩
 have hb1:Below W.heap.size W W1:=by rw[←hW1];exact (bw2 W (.chan 0 #[] false 0 0 false) (.cells #[.int .i64 0,.int .i64 0,.int .i64 0,.int .i64 0,.int .i64 0,.float .f64 0,.string ⟨#[]⟩,.int .i64 0,.slice none 0 0,.chan (some (w.heap.size+1)),.pointer none,.bool false,.pointer none,.slice none 0 0] 115)).drew
 have hsz1:W1.heap.size=w.heap.size+1+1+1:=by rw[←hW1];simp[hsz]
 have hm1:MachAt W1 g m:=hm.later hb1
 have ht1:W1.heap[w.heap.size+1+1]?=some (.cells (taskA (.slice none 0 0) (w.heap.size+1) 0) 115):=by rw[←hW1];exact blk_newn (by simp[hsz]) _
 have hc1:W1.heap[w.heap.size+1]?=some (.chan 0 #[] false 0 0 false):=by rw[←hW1];exact blk_old (blk_newn (by omega) _) _
 have f74:W1.cell? ⟨g,74,none⟩=some (.slice none 0 0):=by rw[hm1.cell,←ht];rfl
 have hy:=bw1 W1 (.cells #[.pointer (some ⟨w.heap.size+1+1,0,none⟩)] 85)
 obtain⟨g',cap',w2,hr,ho2,hg2⟩:=(ORow.nil (W1.alloc (.cells #[.pointer (some ⟨w.heap.size+1+1,0,none⟩)] 85)) w.heap.size 85 1 pC).app 84 8 Tryz.underlying84 (by kernel_rfl) (by omega) (by omega) (w.heap.size+1+1) (w.heap.size+1+1+1) 84 (show (W1.alloc (.cells #[.pointer (some ⟨w.heap.size+1+1,0,none⟩)] 85)).heap[w.heap.size+1+1+1]?=_ from blk_newn (by omega) _) rfl (by intro u hu;simp[pC]at hu;subst hu;rfl) (by simp) (by simp;omega)
 have hb2:Below W1.heap.size W1 w2:=ButL.nil (ButL.grown (S:=[]) ((ButL.refl [] W1).alloc _) hg2 (fun b e=>by cases e))
 have hm2:MachAt w2 g m:=hm1.later hb2
 have g74:w2.cell? ⟨g,74,none⟩=some (.slice none 0 0):=by rw[hm2.cell,←ht];rfl
 have z2:=blk_frozen hm2
 have HE:Hid (MachAt (w2.setCell ⟨g,74,none⟩ (.slice (some ⟨g',0,none⟩) 1 cap')) g { m with tasks:=.slice (some ⟨g',0,none⟩) 1 cap' }∧(w2.setCell ⟨g,74,none⟩ (.slice (some ⟨g',0,none⟩) 1 cap')).heap[w.heap.size+1+1]?=some (.cells (taskA (.slice none 0 0) (w.heap.size+1) 0) 115)∧(w2.setCell ⟨g,74,none⟩ (.slice (some ⟨g',0,none⟩) 1 cap')).heap[w.heap.size+1]?=some (.chan 0 #[] false 0 0 false)∧w.heap.size≤w.heap.size+1+1∧w.heap.size≤w.heap.size+1∧ORow (w2.setCell ⟨g,74,none⟩ (.slice (some ⟨g',0,none⟩) 1 cap')) w.heap.size 85 1 pC (.slice (some ⟨g',0,none⟩) 1 cap') [w.heap.size+1+1]∧ButL [g] w (w2.setCell ⟨g,74,none⟩ (.slice (some ⟨g',0,none⟩) 1 cap'))):=by
  refine⟨?_,blk_other (blk_later hb2 ht1) (by omega) _ _,blk_other (blk_later hb2 hc1) (by omega) _ _,by omega,by omega,ORow.set_own ho2 (own_ne ho2 hm2 (by decide)) _ _,?_⟩
  ·have:=blk_set hm2 74 (.slice (some ⟨g',0,none⟩) 1 cap')
   rw[MachD.set_tasks]at this
   exact this
  ·exact ((((ButL.of_below hb).thenB hb1).thenB hb2)).set (by simp) _ _
 have HR:Hid _:=hr
 clear h hm hb bn hb1 hm1 ht1 hc1 hy ho2 hg2 hb2 hm2 hr
 go_enter Tryz.func30,Tryz.ntmps30
 go_wp2_with fail
 clear hW
 go_region
 go_wp2_with (at_builtin;refine wpList_append_run rfl _ _ _ rfl _ _ _ _ rfl rfl HR.out ?_)
 go_ret
 exact⟨_,_,_,_,rfl,HE.out⟩
end Go.Proofs.YtliahjnnbbgooaaGreatDoor.M
namespace Go.Proofs.YtliahjnnbbgooaaGreatDoor.T
open Go.RowKit M
def kindN (i:Nat):Int:=if i % 2=0 then 4 else 5
def recL (n:Nat):List Int:=(List.range n).map kindN
theorem recL_succ (n:Nat):recL (n+1)=recL n++[kindN n]:=by
 unfold recL;rw[List.range_succ,List.map_append];rfl
def R0:List M.SD:=List.replicate 250 sd0
theorem R0_len:R0.length=250:=by unfold R0;exact List.length_replicate
structure TK where
 gm:Nat
 gf:Nat
 gt:Nat
 gc:Nat
 gk:Nat
 gch:Nat
 cc:Nat
 ca:Array Value
 ka:Array Value
 bp:Nat
 op:Nat
 capP:Nat
 ov:Addr
 m0:MachD
 c0:CallD
def TK.m (K:TK) (z:Int) (rv:Value):MachD:={ K.m0 with rticks:=z,recs:=rv }
def TK.c (K:TK) (at' next:Int) (gv:Value) (rs:List M.SD):CallD:={ K.c0 with at':=at',next:=next,guards:=gv,regs:=rs }
structure TKok (w0:World) (K:TK):Prop where
 geM:w0.heap.size≤K.gm
 geF:w0.heap.size≤K.gf
 run:K.m0.running=.pointer (some ⟨K.gt,0,none⟩)
 wat:K.m0.watch=.func (.func 10) #[] #[]
 prs:K.m0.protos=.slice (some ⟨K.bp,K.op,none⟩) 1 K.capP
 nam:w0.cell? ⟨K.bp,K.op,none⟩=some (.string ⟨#[109,97,105,110]⟩)
 pro:K.c0.proto=0
 lin:K.c0.line=0
 ovr:OvV w0 (some K.ov)
 tic:0≤K.m0.ticks∧K.m0.ticks≤5000
 ca0:K.ca[0]?=some (.pointer (some ⟨K.gf,0,none⟩))
 cc1:1≤K.cc
structure TX (w0:World) (K:TK) (w:World) (tk nr:Nat) (at' next:Int) (rs:List M.SD) (gl:List (Nat × Int)) (rv gv:Value):Prop where
 bel:Below w0.heap.size w0 w
 mac:MachAt w K.gm (K.m tk rv)
 cal:CallAt w K.gf (K.c at' next gv rs)
 tsk:w.heap[K.gt]?=some (.cells (taskA (.slice (some ⟨K.gc,0,none⟩) 1 K.cc) K.gch 2) 115)
 cro:w.heap[K.gc]?=some (.cells K.ca 116)
 row:w.heap[K.gk]?=some (.cells K.ka 85)
 cha:w.heap[K.gch]?=some (.chan 0 #[] false 0 0 false)
 gu:ORow w w0.heap.size 277 1 vC gv (gl.map fun g=>caV g.1)
 gb:∀g∈gl,w.heap[g.1]?=some (CtO g.2 0)
 rc:ORow w w0.heap.size 67 5 rcC rv (recL nr)
 lr:rs.length=250
section
variable {w0:World} {K:TK} {w w':World} {tk nr:Nat} {at' next:Int} {rs:List M.SD} {gl:List (Nat × Int)} {rv gv:Value}
def twr (K:TK) (rv gv:Value):List Nat:=K.gm :: K.gf :: (gv.ownBlock.toList++rv.ownBlock.toList)
theorem TX.wrTy (ok:TKok w0 K) (h:TX w0 K w tk nr at' next rs gl rv gv):∀g∈twr K rv gv,w0.heap.size≤g∧∃a t,w.heap[g]?=some (.cells a t)∧(t=97∨t=152∨t=277∨t=67):=by
 intro g hg
 simp only[twr,List.mem_cons,List.mem_append,Option.mem_toList]at hg
 rcases hg with rfl | rfl | hg | hg
 ·exact⟨ok.geM,_,_,h.mac,.inl rfl⟩
 ·exact⟨ok.geF,_,_,h.cal,.inr (.inl rfl)⟩
 ·obtain⟨h1,cur,h2⟩:=own_blk h.gu hg
  exact⟨h1,_,_,h2,.inr (.inr (.inl rfl))⟩
 ·obtain⟨h1,cur,h2⟩:=own_blk h.rc hg
  exact⟨h1,_,_,h2,.inr (.inr (.inr rfl))⟩
theorem TX.keep (ok:TKok w0 K) (h:TX w0 K w tk nr at' next rs gl rv gv) (hb:ButL (twr K rv gv) w w') {q:Nat} {b:Array Value} {u:TypeId} (hq:w.heap[q]?=some (.cells b u)) (n1:u≠97) (n2:u≠152) (n3:u≠277) (n4:u≠67):w'.heap[q]?=some (.cells b u):=by
 refine hb.blk hq (fun hm=>?_)
 obtain⟨_,a,t,ht,hc⟩:=h.wrTy ok q hm
 rw[hq]at ht
 injection ht with ht
 injection ht with _ ht
 subst ht
 rcases hc with e | e | e | e
 ·exact n1 e
 ·exact n2 e
 ·exact n3 e
 ·exact n4 e
theorem TX.step (ok:TKok w0 K) (h:TX w0 K w tk nr at' next rs gl rv gv) (hb:ButL (twr K rv gv) w w') {tk2 nr2:Nat} {at2 next2:Int} {rs2:List M.SD} {gl2:List (Nat × Int)} {rv2 gv2:Value}
  (mac:MachAt w' K.gm (K.m tk2 rv2)) (cal:CallAt w' K.gf (K.c at2 next2 gv2 rs2)) (gu:ORow w' w0.heap.size 277 1 vC gv2 (gl2.map fun g=>caV g.1)) (gb:∀g∈gl2,g∈gl∨w'.heap[g.1]?=some (CtO g.2 0)) (rc:ORow w' w0.heap.size 67 5 rcC rv2 (recL nr2)) (lr:rs2.length=250):TX w0 K w' tk2 nr2 at2 next2 rs2 gl2 rv2 gv2:=by
 refine⟨hb.below h.bel (fun g hg=>(h.wrTy ok g hg).1) h.bel.size,mac,cal,h.keep ok hb h.tsk (by decide) (by decide) (by decide) (by decide),h.keep ok hb h.cro (by decide) (by decide) (by decide) (by decide),h.keep ok hb h.row (by decide) (by decide) (by decide) (by decide),hb.blk h.cha (fun hm=>?_),gu,fun g hg=>?_,rc,lr⟩
 ·obtain⟨_,a,t,ht,_⟩:=h.wrTy ok _ hm
  rw[h.cha]at ht;cases ht
 ·rcases gb g hg with e | e
  ·exact h.keep ok hb (h.gb g e) (by decide) (by decide) (by decide) (by decide)
  ·exact e
theorem TX.mf (h:TX w0 K w tk nr at' next rs gl rv gv):K.gm≠K.gf:=ne_ty h.mac h.cal (by decide)
theorem TX.sub (h:TX w0 K w tk nr at' next rs gl rv gv) {S:List Nat} (hb:ButL S w w') (hS:∀g∈S,g∈twr K rv gv):ButL (twr K rv gv) w w':=hb.mono (fun g hg=>.inl (hS g hg))
theorem TX.call (ok:TKok w0 K) (h:TX w0 K w tk nr at' next rs gl rv gv) {at2 next2:Int} {rs2:List M.SD} (hb:ButL [K.gf] w w') (hc:CallAt w' K.gf (K.c at2 next2 gv rs2)) (hl:rs2.length=250):TX w0 K w' tk nr at2 next2 rs2 gl rv gv :=
 h.step ok (h.sub hb (fun g hg=>by simp at hg;subst hg;simp[twr])) (h.mac.but hb (by simp;exact h.mf)) hc (ORow.butn h.gu hb (fun g e hg=>by simp at hg;subst hg;exact own_ne h.gu h.cal (by decide) e)) (fun g hg=>.inl hg) (ORow.butn h.rc hb (fun g e hg=>by simp at hg;subst hg;exact own_ne h.rc h.cal (by decide) e)) hl
theorem TX.mach (ok:TKok w0 K) (h:TX w0 K w tk nr at' next rs gl rv gv) {tk2:Nat} (hb:ButL [K.gm] w w') (hm:MachAt w' K.gm (K.m tk2 rv)):TX w0 K w' tk2 nr at' next rs gl rv gv :=
 h.step ok (h.sub hb (fun g hg=>by simp at hg;subst hg;simp[twr])) hm (h.cal.but hb (by simp;exact h.mf.symm)) (ORow.butn h.gu hb (fun g e hg=>by simp at hg;subst hg;exact own_ne h.gu h.mac (by decide) e)) (fun g hg=>.inl hg) (ORow.butn h.rc hb (fun g e hg=>by simp at hg;subst hg;exact own_ne h.rc h.mac (by decide) e)) h.lr
theorem TX.later (ok:TKok w0 K) (h:TX w0 K w tk nr at' next rs gl rv gv) (hb:Below w.heap.size w w'):TX w0 K w' tk nr at' next rs gl rv gv :=
 h.call ok (ButL.of_below hb) (h.cal.later hb) h.lr
theorem TX.recd (ok:TKok w0 K) (h:TX w0 K w tk nr at' next rs gl rv gv) {rv2:Value} (hb:ButL (K.gm :: rv.ownBlock.toList) w w') (hm:MachAt w' K.gm (K.m tk rv2)) (hr:ORow w' w0.heap.size 67 5 rcC rv2 (recL nr++[kindN nr])):TX w0 K w' tk (nr+1) at' next rs gl rv2 gv:=by
 refine h.step ok (h.sub hb (fun g hg=>?_)) hm (h.cal.but hb ?_) (ORow.butn h.gu hb (fun g e hg=>?_)) (fun g hg=>.inl hg) (by rw[recL_succ];exact hr) h.lr
 ·simp only[List.mem_cons,Option.mem_toList]at hg
  simp only[twr,List.mem_cons,List.mem_append,Option.mem_toList]
  rcases hg with e | e
  ·exact .inl e
  ·exact .inr (.inr (.inr e))
 ·simp only[List.mem_cons,Option.mem_toList,not_or]
  exact⟨h.mf.symm,own_ne h.rc h.cal (by decide)⟩
 ·simp only[List.mem_cons,Option.mem_toList]at hg
  rcases hg with rfl | hg
  ·exact own_ne h.gu h.mac (by decide) e
  ·obtain⟨_,cur,h2⟩:=own_blk h.rc hg
   exact own_ne h.gu h2 (by decide) e
theorem TX.guard (ok:TKok w0 K) (h:TX w0 K w tk nr at' next rs gl rv gv) {gv2:Value} {gl2:List (Nat × Int)} (hb:ButL (K.gf :: gv.ownBlock.toList) w w') (hc:CallAt w' K.gf (K.c at' next gv2 rs)) (hg2:ORow w' w0.heap.size 277 1 vC gv2 (gl2.map fun g=>caV g.1)) (gb:∀g∈gl2,g∈gl∨w'.heap[g.1]?=some (CtO g.2 0)):TX w0 K w' tk nr at' next rs gl2 rv gv2:=by
 refine h.step ok (h.sub hb (fun g hg=>?_)) (h.mac.but hb ?_) hc hg2 gb (ORow.butn h.rc hb (fun g e hg=>?_)) h.lr
 ·simp only[List.mem_cons,Option.mem_toList]at hg
  simp only[twr,List.mem_cons,List.mem_append,Option.mem_toList]
  rcases hg with e | e
  ·exact .inr (.inl e)
  ·exact .inr (.inr (.inl e))
 ·simp only[List.mem_cons,Option.mem_toList,not_or]
  exact⟨h.mf,own_ne h.gu h.mac (by decide)⟩
 ·simp only[List.mem_cons,Option.mem_toList]at hg
  rcases hg with rfl | hg
  ·exact own_ne h.rc h.cal (by decide) e
  ·obtain⟨_,cur,h2⟩:=own_blk h.gu hg
   exact own_ne h.rc h2 (by decide) e
theorem TX.tka (ok:TKok w0 K) (h:TX w0 K w tk nr at' next rs gl rv gv):TkAt w K.gt K.gc K.gf :=
 ⟨⟨K.cc,by rw[blk_cell h.tsk];rfl,ok.cc1⟩,by rw[blk_cell h.tsk];rfl,by rw[blk_cell h.cro];exact ok.ca0⟩
theorem TX.thr (ok:TKok w0 K) (h:TX w0 K w tk nr at' next rs gl rv gv):ThR w K.gm K.gt K.gc K.gf K.bp K.op K.capP (K.m tk rv) (K.c at' next gv rs) :=
 ⟨h.mac,ok.run,h.tka ok,h.cal,ok.pro,ok.lin,ok.prs,cell_later h.bel ok.nam⟩
theorem TX.ov (ok:TKok w0 K) (h:TX w0 K w tk nr at' next rs gl rv gv):OvV w (some K.ov):=ok.ovr.later h.bel
end
end Go.Proofs.YtliahjnnbbgooaaGreatDoor.T
namespace Go.Proofs.YtliahjnnbbgooaaGreatDoor.U
open Go.RowKit M T
structure UK where
 gm:Nat
 gf:Nat
 gt:Nat
 gc:Nat
 gk:Nat
 gch:Nat
 cc:Nat
 ca:Array Value
 ka:Array Value
 bp:Nat
 op:Nat
 capP:Nat
 ov:Addr
 m0:MachD
 c0:CallD
def UK.m (K:UK) (z:Int) (rv:Value):MachD:={ K.m0 with rticks:=z,recs:=rv }
def UK.c (K:UK) (ln at' next:Int) (gv:Value) (rs:List M.SD):CallD:={ K.c0 with line:=ln,at':=at',next:=next,guards:=gv,regs:=rs }
structure UKok (w0:World) (K:UK):Prop where
 geM:w0.heap.size≤K.gm
 geF:w0.heap.size≤K.gf
 run:K.m0.running=.pointer (some ⟨K.gt,0,none⟩)
 wat:K.m0.watch=.func (.func 10) #[] #[]
 prs:K.m0.protos=.slice (some ⟨K.bp,K.op,none⟩) 1 K.capP
 nam:w0.cell? ⟨K.bp,K.op,none⟩=some (.string ⟨#[109,97,105,110]⟩)
 pro:K.c0.proto=0
 ovr:OvV w0 (some K.ov)
 tic:0≤K.m0.ticks∧K.m0.ticks≤5000
 ca0:K.ca[0]?=some (.pointer (some ⟨K.gf,0,none⟩))
 cc1:1≤K.cc
structure UX (w0:World) (K:UK) (w:World) (tk:Nat) (xs:List RcD) (ln at' next:Int) (rs:List M.SD) (gl:List (Nat × Int)) (rv gv:Value):Prop where
 bel:Below w0.heap.size w0 w
 mac:MachAt w K.gm (K.m tk rv)
 cal:CallAt w K.gf (K.c ln at' next gv rs)
 tsk:w.heap[K.gt]?=some (.cells (taskA (.slice (some ⟨K.gc,0,none⟩) 1 K.cc) K.gch 2) 115)
 cro:w.heap[K.gc]?=some (.cells K.ca 116)
 row:w.heap[K.gk]?=some (.cells K.ka 85)
 cha:w.heap[K.gch]?=some (.chan 0 #[] false 0 0 false)
 gu:ORow w w0.heap.size 277 1 vC gv (gl.map fun g=>caV g.1)
 gb:∀g∈gl,w.heap[g.1]?=some (CtO g.2 0)
 rc:ORow w w0.heap.size 67 5 rgC rv xs
 lr:rs.length=250
section
variable {w0:World} {K:UK} {w w':World} {tk:Nat} {xs:List RcD} {ln at' next:Int} {rs:List M.SD} {gl:List (Nat × Int)} {rv gv:Value}
def twr (K:UK) (rv gv:Value):List Nat:=K.gm :: K.gf :: (gv.ownBlock.toList++rv.ownBlock.toList)
theorem UX.wrTy (ok:UKok w0 K) (h:UX w0 K w tk xs ln at' next rs gl rv gv):∀g∈twr K rv gv,w0.heap.size≤g∧∃a t,w.heap[g]?=some (.cells a t)∧(t=97∨t=152∨t=277∨t=67):=by
 intro g hg
 simp only[twr,List.mem_cons,List.mem_append,Option.mem_toList]at hg
 rcases hg with rfl | rfl | hg | hg
 ·exact⟨ok.geM,_,_,h.mac,.inl rfl⟩
 ·exact⟨ok.geF,_,_,h.cal,.inr (.inl rfl)⟩
 ·obtain⟨h1,cur,h2⟩:=own_blk h.gu hg
  exact⟨h1,_,_,h2,.inr (.inr (.inl rfl))⟩
 ·obtain⟨h1,cur,h2⟩:=own_blk h.rc hg
  exact⟨h1,_,_,h2,.inr (.inr (.inr rfl))⟩
theorem UX.keep (ok:UKok w0 K) (h:UX w0 K w tk xs ln at' next rs gl rv gv) (hb:ButL (twr K rv gv) w w') {q:Nat} {b:Array Value} {u:TypeId} (hq:w.heap[q]?=some (.cells b u)) (n1:u≠97) (n2:u≠152) (n3:u≠277) (n4:u≠67):w'.heap[q]?=some (.cells b u):=by
 refine hb.blk hq (fun hm=>?_)
 obtain⟨_,a,t,ht,hc⟩:=h.wrTy ok q hm
 rw[hq]at ht
 injection ht with ht
 injection ht with _ ht
 subst ht
 rcases hc with e | e | e | e
 ·exact n1 e
 ·exact n2 e
 ·exact n3 e
 ·exact n4 e
theorem UX.step (ok:UKok w0 K) (h:UX w0 K w tk xs ln at' next rs gl rv gv) (hb:ButL (twr K rv gv) w w') {tk2:Nat} {xs2:List RcD} {ln2 at2 next2:Int} {rs2:List M.SD} {gl2:List (Nat × Int)} {rv2 gv2:Value}
  (mac:MachAt w' K.gm (K.m tk2 rv2)) (cal:CallAt w' K.gf (K.c ln2 at2 next2 gv2 rs2)) (gu:ORow w' w0.heap.size 277 1 vC gv2 (gl2.map fun g=>caV g.1)) (gb:∀g∈gl2,g∈gl∨w'.heap[g.1]?=some (CtO g.2 0)) (rc:ORow w' w0.heap.size 67 5 rgC rv2 xs2) (lr:rs2.length=250):UX w0 K w' tk2 xs2 ln2 at2 next2 rs2 gl2 rv2 gv2:=by
 refine⟨hb.below h.bel (fun g hg=>(h.wrTy ok g hg).1) h.bel.size,mac,cal,h.keep ok hb h.tsk (by decide) (by decide) (by decide) (by decide),h.keep ok hb h.cro (by decide) (by decide) (by decide) (by decide),h.keep ok hb h.row (by decide) (by decide) (by decide) (by decide),hb.blk h.cha (fun hm=>?_),gu,fun g hg=>?_,rc,lr⟩
 ·obtain⟨_,a,t,ht,_⟩:=h.wrTy ok _ hm
  rw[h.cha]at ht;cases ht
 ·rcases gb g hg with e | e
  ·exact h.keep ok hb (h.gb g e) (by decide) (by decide) (by decide) (by decide)
  ·exact e
theorem UX.mf (h:UX w0 K w tk xs ln at' next rs gl rv gv):K.gm≠K.gf:=ne_ty h.mac h.cal (by decide)
theorem UX.sub (h:UX w0 K w tk xs ln at' next rs gl rv gv) {S:List Nat} (hb:ButL S w w') (hS:∀g∈S,g∈twr K rv gv):ButL (twr K rv gv) w w':=hb.mono (fun g hg=>.inl (hS g hg))
theorem UX.call (ok:UKok w0 K) (h:UX w0 K w tk xs ln at' next rs gl rv gv) {ln2 at2 next2:Int} {rs2:List M.SD} (hb:ButL [K.gf] w w') (hc:CallAt w' K.gf (K.c ln2 at2 next2 gv rs2)) (hl:rs2.length=250):UX w0 K w' tk xs ln2 at2 next2 rs2 gl rv gv :=
 h.step ok (h.sub hb (fun g hg=>by simp at hg;subst hg;simp[twr])) (h.mac.but hb (by simp;exact h.mf)) hc (ORow.butn h.gu hb (fun g e hg=>by simp at hg;subst hg;exact own_ne h.gu h.cal (by decide) e)) (fun g hg=>.inl hg) (ORow.butn h.rc hb (fun g e hg=>by simp at hg;subst hg;exact own_ne h.rc h.cal (by decide) e)) hl
theorem UX.mach (ok:UKok w0 K) (h:UX w0 K w tk xs ln at' next rs gl rv gv) {tk2:Nat} (hb:ButL [K.gm] w w') (hm:MachAt w' K.gm (K.m tk2 rv)):UX w0 K w' tk2 xs ln at' next rs gl rv gv :=
 h.step ok (h.sub hb (fun g hg=>by simp at hg;subst hg;simp[twr])) hm (h.cal.but hb (by simp;exact h.mf.symm)) (ORow.butn h.gu hb (fun g e hg=>by simp at hg;subst hg;exact own_ne h.gu h.mac (by decide) e)) (fun g hg=>.inl hg) (ORow.butn h.rc hb (fun g e hg=>by simp at hg;subst hg;exact own_ne h.rc h.mac (by decide) e)) h.lr
theorem UX.later (ok:UKok w0 K) (h:UX w0 K w tk xs ln at' next rs gl rv gv) (hb:Below w.heap.size w w'):UX w0 K w' tk xs ln at' next rs gl rv gv :=
 h.call ok (ButL.of_below hb) (h.cal.later hb) h.lr
theorem UX.recd (ok:UKok w0 K) (h:UX w0 K w tk xs ln at' next rs gl rv gv) {rv2:Value} {x:RcD} (hb:ButL (K.gm :: rv.ownBlock.toList) w w') (hm:MachAt w' K.gm (K.m tk rv2)) (hr:ORow w' w0.heap.size 67 5 rgC rv2 (xs++[x])):UX w0 K w' tk (xs++[x]) ln at' next rs gl rv2 gv:=by
 refine h.step ok (h.sub hb (fun g hg=>?_)) hm (h.cal.but hb ?_) (ORow.butn h.gu hb (fun g e hg=>?_)) (fun g hg=>.inl hg) hr h.lr
 ·simp only[List.mem_cons,Option.mem_toList]at hg
  simp only[twr,List.mem_cons,List.mem_append,Option.mem_toList]
  rcases hg with e | e
  ·exact .inl e
  ·exact .inr (.inr (.inr e))
 ·simp only[List.mem_cons,Option.mem_toList,not_or]
  exact⟨h.mf.symm,own_ne h.rc h.cal (by decide)⟩
 ·simp only[List.mem_cons,Option.mem_toList]at hg
  rcases hg with rfl | hg
  ·exact own_ne h.gu h.mac (by decide) e
  ·obtain⟨_,cur,h2⟩:=own_blk h.rc hg
   exact own_ne h.gu h2 (by decide) e
theorem UX.guard (ok:UKok w0 K) (h:UX w0 K w tk xs ln at' next rs gl rv gv) {gv2:Value} {gl2:List (Nat × Int)} (hb:ButL (K.gf :: gv.ownBlock.toList) w w') (hc:CallAt w' K.gf (K.c ln at' next gv2 rs)) (hg2:ORow w' w0.heap.size 277 1 vC gv2 (gl2.map fun g=>caV g.1)) (gb:∀g∈gl2,g∈gl∨w'.heap[g.1]?=some (CtO g.2 0)):UX w0 K w' tk xs ln at' next rs gl2 rv gv2:=by
 refine h.step ok (h.sub hb (fun g hg=>?_)) (h.mac.but hb ?_) hc hg2 gb (ORow.butn h.rc hb (fun g e hg=>?_)) h.lr
 ·simp only[List.mem_cons,Option.mem_toList]at hg
  simp only[twr,List.mem_cons,List.mem_append,Option.mem_toList]
  rcases hg with e | e
  ·exact .inr (.inl e)
  ·exact .inr (.inr (.inl e))
 ·simp only[List.mem_cons,Option.mem_toList,not_or]
  exact⟨h.mf,own_ne h.gu h.mac (by decide)⟩
 ·simp only[List.mem_cons,Option.mem_toList]at hg
  rcases hg with rfl | hg
  ·exact own_ne h.rc h.cal (by decide) e
  ·obtain⟨_,cur,h2⟩:=own_blk h.gu hg
   exact own_ne h.rc h2 (by decide) e
theorem UX.tka (ok:UKok w0 K) (h:UX w0 K w tk xs ln at' next rs gl rv gv):TkAt w K.gt K.gc K.gf :=
 ⟨⟨K.cc,by rw[blk_cell h.tsk];rfl,ok.cc1⟩,by rw[blk_cell h.tsk];rfl,by rw[blk_cell h.cro];exact ok.ca0⟩
theorem UX.thr (ok:UKok w0 K) (h:UX w0 K w tk xs ln at' next rs gl rv gv) (h0:ln=0):ThR w K.gm K.gt K.gc K.gf K.bp K.op K.capP (K.m tk rv) (K.c ln at' next gv rs) :=
 ⟨h.mac,ok.run,h.tka ok,h.cal,ok.pro,h0,ok.prs,cell_later h.bel ok.nam⟩
theorem UX.ov (ok:UKok w0 K) (h:UX w0 K w tk xs ln at' next rs gl rv gv):OvV w (some K.ov):=ok.ovr.later h.bel
theorem UX.both (ok:UKok w0 K) (h:UX w0 K w tk xs ln at' next rs gl rv gv) {tk2:Nat} {ln2 at2 next2:Int} {rs2:List M.SD} (hb:ButL [K.gm,K.gf] w w') (hm:MachAt w' K.gm (K.m tk2 rv)) (hc:CallAt w' K.gf (K.c ln2 at2 next2 gv rs2)) (hl:rs2.length=250):UX w0 K w' tk2 xs ln2 at2 next2 rs2 gl rv gv:=by
 refine h.step ok (h.sub hb (fun g hg=>?_)) hm hc (ORow.butn h.gu hb (fun g e hg=>?_)) (fun g hg=>.inl hg) (ORow.butn h.rc hb (fun g e hg=>?_)) hl
 ·simp only[List.mem_cons,List.not_mem_nil,or_false]at hg
  simp only[twr,List.mem_cons]
  rcases hg with e | e
  ·exact .inl e
  ·exact .inr (.inl e)
 ·simp only[List.mem_cons,List.not_mem_nil,or_false]at hg
  rcases hg with rfl | rfl
  ·exact own_ne h.gu h.mac (by decide) e
  ·exact own_ne h.gu h.cal (by decide) e
 ·simp only[List.mem_cons,List.not_mem_nil,or_false]at hg
  rcases hg with rfl | rfl
  ·exact own_ne h.rc h.mac (by decide) e
  ·exact own_ne h.rc h.cal (by decide) e
end
end Go.Proofs.YtliahjnnbbgooaaGreatDoor.U
namespace Go.Proofs.YtliahjnnbbgooaaGreatDoor.U
open Go.RowKit M T
attribute [local go_sem] run_store_float
abbrev ThG (v:VD) (s:ByteArray):Obj:=.cells #[.int .i64 v.k,.int .i64 v.n,.float .f64 v.f,.string v.s,.int .i64 v.r,.string s] 129
theorem throwg_any (gm gt gc gf bp op capP:Nat) (m:MachD) (c:CallD) (v:VD) (tx:ByteArray) (Q:World→World→Prop) (w:World) (h:ThR w gm gt gc gf bp op capP m c)
  (HTo:∀W,Below w.heap.size w W→Calls Tryz.prog 35 #[.pointer (some ⟨gm,0,none⟩),.agg #[.int .i64 v.k,.int .i64 v.n,.float .f64 v.f,.string v.s,.int .i64 v.r]] W fun e w'=>e=.returned (.string tx)∧Below W.heap.size W w')
  (HQ:∀wk,Below w.heap.size w wk→Calls Tryz.prog 206 #[.pointer (some ⟨gm,0,none⟩),.agg #[.int .i64 4,.int .i64 0,.int .i64 0,.int .i64 0,.string tx]] wk fun e w'=>e=.returned .nilIface∧Q wk w') :
  Calls Tryz.prog 154 #[.pointer (some ⟨gm,0,none⟩),.agg #[.int .i64 v.k,.int .i64 v.n,.float .f64 v.f,.string v.s,.int .i64 v.r]] w fun e w'=>∃gr s wk,e=.returned (.iface 112 (.pointer (some ⟨gr,0,none⟩)))∧w.heap.size≤gr∧wk.heap[gr]?=some (ThG v s)∧Below w.heap.size w wk∧Q wk w':=by
 obtain⟨W,hW⟩:∃W,w.alloc (vO v)=W:=⟨_,rfl⟩
 have hb:Below w.heap.size w W:=by rw[←hW];exact bw1 _ _
 have bn:W.heap[w.heap.size]?=some (vO v):=by rw[←hW];exact blk_new _ _
 have HN:Hid (W.heap[w.heap.size]?=some (vO v)):=bn
 have HB:Hid (Below w.heap.size w W):=hb
 have HT:Hid (ThR W gm gt gc gf bp op capP m c):=h.later hb
 have HQ':Hid (∀wk,Below w.heap.size w wk→Calls Tryz.prog 206 #[.pointer (some ⟨gm,0,none⟩),.agg #[.int .i64 4,.int .i64 0,.int .i64 0,.int .i64 0,.string tx]] wk fun e w'=>e=.returned .nilIface∧Q wk w'):=HQ
 have HTo':Hid (∀W,Below w.heap.size w W→Calls Tryz.prog 35 #[.pointer (some ⟨gm,0,none⟩),.agg #[.int .i64 v.k,.int .i64 v.n,.float .f64 v.f,.string v.s,.int .i64 v.r]] W fun e w'=>e=.returned (.string tx)∧Below W.heap.size W w'):=HTo
 obtain⟨d0,d1,d2,d3,d4⟩:=vO_cells bn
 clear h hb bn HQ HTo
 go_enter Tryz.func154,Tryz.ntmps154
 go_wp2_with fail
 clear hW
 go_cut [5] from 7 to 11 (fun s5 wx=>∃gr s,s5=.pointer (some ⟨gr,0,none⟩)∧W.heap.size≤gr∧Hid (wx.heap[gr]?=some (ThG v s))∧Hid (Below W.heap.size W wx))
 case first =>
  go_region_with (go_at_call 219;refine (trace_any gm gt gc gf bp op capP m c W.drew HT.out.mac HT.out.run (HT.out.tk.drewN 1) HT.out.cal HT.out.pro HT.out.lin HT.out.prs HT.out.nam).mono ?_;rintro e w1 ⟨⟨s,rfl⟩,hx⟩;replace hx:=und1' hx;obtain⟨f0,f1,f2,f3,f4⟩:=vO_cells (blk_later hx HN.out);have HX:Hid (Below W.heap.size W w1):=hx;clear hx)
  all_goals
   go_wp2_with fail
   go_meet
   exact⟨w1.heap.size,s,rfl,HX.out.size,blk_new _ _,HX.out.trans ((bw1 _ _).mono HX.out.size)⟩
 case rest =>
  obtain⟨gr,s,rfl,hgr,HG,HX⟩:=hcut
  have HT2:Hid (ThR wc gm gt gc gf bp op capP m c):=HT.out.later HX.out
  have HN2:Hid (wc.heap[w.heap.size]?=some (vO v)):=blk_later HX.out HN.out
  obtain⟨f0,f1,f2,f3,f4⟩:=vO_cells HN2.out
  have c75:wc.cell? ⟨gm,75,none⟩=some (.pointer (some ⟨gt,0,none⟩)):=by rw[HT2.out.mac.cell,←HT2.out.run];rfl
  clear d0 d1 d2 d3 d4
  go_wp2_with fail
  go_region_with (first | (go_at_call 169;refine (line_any gt gc gf c wc.drew (HT2.out.tk.drewN 1) HT2.out.cal).mono ?_;rintro e w3 ⟨rfl,n3,rfl⟩;obtain⟨h0,h1,h2,h3,h4⟩:=vO_cells (W:=wc.drew.drewN n3) HN2.out) | (go_at_call 35;refine (HTo'.out _ (by exact bdN _ (HB.out.trans (HX.out.mono HB.out.size)))).mono ?_;rintro e w4 ⟨rfl,hx4⟩;have HX4:Hid (Below wc.heap.size wc w4):=⟨hx4.os,hx4.tape,hx4.output,hx4.size,hx4.block⟩;have HT4:Hid (ThR w4 gm gt gc gf bp op capP m c):=HT2.out.later HX4.out;clear hx4;rw[HT2.out.lin]) | (go_at_call 137;refine (tell_g gm gt gc gf ⟨4,0,tx⟩ m c .nilIface (fun w'=>∃n,Q (w4.drewN n) w') w4 HT4.out.mac HT4.out.run HT4.out.tk HT4.out.cal HT4.out.pro (fun n=>(HQ'.out (w4.drewN n) (bdN n (HB.out.trans ((HX.out.trans (HX4.out.mono HX.out.size)).mono HB.out.size)))).mono (fun e w' h=>⟨h.1,n,h.2⟩))).mono ?_;rintro e w5 ⟨rfl,n5,hq⟩;have HQ5:Hid (Q (w4.drewN n5) w5):=hq;clear hq))
  all_goals
   go_wp2_with fail
   go_ret
   exact⟨gr,s,w4.drewN n5,rfl,by have:=HB.out.size;omega,blk_later (bdN n5 HX4.out) HG.out,bdN n5 (HB.out.trans ((HX.out.trans (HX4.out.mono HX.out.size)).mono HB.out.size)),HQ5.out⟩
end Go.Proofs.YtliahjnnbbgooaaGreatDoor.U
