import Derived.Test.YtjglgbepobmjhaaGreatDoorP37
import Derived.Test.YtjglgbepobmjhaaGreatDoorP11
set_option linter.unusedVariables false
set_option linter.unusedSimpArgs false
set_option maxRecDepth 20000
set_option maxHeartbeats 8000000
namespace Go.Proofs.YtjglgbepobmjhaaGreatDoor.M
open Go.RowKit
attribute [local go_sem] run_store_float
def insV (n:ID):Value:=.agg #[.int .i64 n.op,.int .i64 n.a,.int .i64 n.b,.int .i64 n.c,.int .i64 n.d]
abbrev InO (n:ID):Obj:=.cells #[.int .i64 n.op,.int .i64 n.a,.int .i64 n.b,.int .i64 n.c,.int .i64 n.d] 47
theorem doList_any (pm:Value) (g i:Nat) (n:ID) (c:CallD) (w:World) (h:CallAt w g c) (hr:c.regs.length=250) (hi:i<250) (ha:n.a=i) :
  Calls Tryz.prog 94 #[pm,.pointer (some ⟨g,0,none⟩),insV n] w fun e w'=>e=.returned .nilIface∧CallAt w' g { c with regs:=c.regs.set i (sdL (.slice none 0 0)) }∧ButL [g] w w':=by
 obtain⟨op,a,b,cc,d⟩:=n
 dsimp only[insV]at ha ⊢
 subst ha
 have HB:Hid _:=bw1 w (InO ⟨op,i,b,cc,d⟩)
 have HC:Hid (CallAt (w.alloc (InO ⟨op,i,b,cc,d⟩)) g c):=h.later HB.out
 clear h
 go_enter Tryz.func94,Tryz.ntmps94
 go_wp2_with fail
 refine (putList_any g i 0 0 none c _ HC.out hr hi).mono ?_
 rintro e w1 ⟨rfl,h1,hb1⟩
 have H1:Hid _:=h1
 have HB1:Hid _:=hb1
 clear h1 hb1
 go_wp2_with fail
 go_ret
 exact⟨rfl,H1.out,(ButL.of_below HB.out).trans HB1.out⟩
theorem doEndTry_any (pm:Value) (g m cap:Nat) (a0:Option Addr) (n:ID) (c:CallD) (w:World) (h:CallAt w g c) (hg:c.guards=.slice a0 (m+1) cap) (hcap:m+1≤cap) (hm:m≤1000) :
  Calls Tryz.prog 101 #[pm,.pointer (some ⟨g,0,none⟩),insV n] w fun e w'=>e=.returned .nilIface∧CallAt w' g { c with guards:=.slice a0 m cap }∧ButL [g] w w':=by
 obtain⟨op,a,b,cc,d⟩:=n
 dsimp only[insV]
 have HB:Hid _:=bw1 w (InO ⟨op,a,b,cc,d⟩)
 have HC:Hid (CallAt (w.alloc (InO ⟨op,a,b,cc,d⟩)) g c):=h.later HB.out
 clear h
 go_enter Tryz.func101,Tryz.ntmps101
 go_wp2_with fail
 refine (takeOff_any g m cap a0 c _ HC.out hg hcap hm).mono ?_
 rintro e w1 ⟨rfl,h1,hb1⟩
 have H1:Hid _:=h1
 have HB1:Hid _:=hb1
 clear h1 hb1
 go_wp2_with fail
 go_ret
 exact⟨rfl,H1.out,(ButL.of_below HB.out).trans HB1.out⟩
theorem doJump_any (pm:Value) (g:Nat) (n:ID) (c:CallD) (w:World) (h:CallAt w g c) (hop:n.op=19) :
  Calls Tryz.prog 93 #[pm,.pointer (some ⟨g,0,none⟩),insV n] w fun e w'=>e=.returned .nilIface∧CallAt w' g { c with next:=n.a }∧ButL [g] w w':=by
 obtain⟨op,a,b,cc,d⟩:=n
 dsimp only[insV]at hop ⊢
 subst hop
 obtain⟨W,hW⟩:∃W,w.alloc (InO ⟨19,a,b,cc,d⟩)=W:=⟨_,rfl⟩
 have hb:=bw1 w (InO ⟨19,a,b,cc,d⟩)
 have bn:=blk_new w (InO ⟨19,a,b,cc,d⟩)
 rw[hW]at hb bn
 have h':CallAt W g c:=h.later hb
 have c10:W.cell? ⟨g,10,none⟩=some (.int .i64 c.next):=by rw[h'.cell 10 (by omega)];rfl
 have z:=blk_frozen h'
 have d0:W.cell? ⟨w.heap.size,0,none⟩=some (.int .i64 19):=by rw[blk_cell bn];rfl
 have d1:W.cell? ⟨w.heap.size,1,none⟩=some (.int .i64 a):=by rw[blk_cell bn];rfl
 have HC:Hid (CallAt W g c):=h'
 have HB:Hid (ButL [g] w W):=ButL.of_below hb
 clear h h' hb bn
 go_enter Tryz.func93,Tryz.ntmps93
 go_wp2_with fail
 go_ret
 refine⟨rfl,?_,HB.out.set (by simp) _ _⟩
 have:=blk_set HC.out 10 (.int .i64 a)
 rw[CallD.set_next]at this
 exact this
theorem doDrop_any (pm:Value) (g i:Nat) (n:ID) (c:CallD) (w:World) (h:CallAt w g c) (hr:c.regs.length=250) (hi:i<250) (ha:n.a=i) :
  Calls Tryz.prog 110 #[pm,.pointer (some ⟨g,0,none⟩),insV n] w fun e w'=>e=.returned .nilIface∧CallAt w' g { c with regs:=c.regs.set i sd0 }∧ButL [g] w w':=by
 obtain⟨op,a,b,cc,d⟩:=n
 dsimp only[insV]at ha ⊢
 subst ha
 obtain⟨W,hW⟩:∃W,w.alloc (InO ⟨op,i,b,cc,d⟩)=W:=⟨_,rfl⟩
 have hb:=bw1 w (InO ⟨op,i,b,cc,d⟩)
 have bn:=blk_new w (InO ⟨op,i,b,cc,d⟩)
 rw[hW]at hb bn
 have h':CallAt W g c:=h.later hb
 obtain⟨s,hs⟩:∃s,c.regs[i]?=some s:=⟨c.regs[i]'(by omega),by simp⟩
 have c0:W.cell? ⟨g,14+i*8,none⟩=some (.int .i64 s.h):=by have:=h'.reg hs (j:=0) rfl;simpa using this
 have c1:W.cell? ⟨g,14+i*8+1,none⟩=some (.int .i64 s.v.k):=by have:=h'.reg hs (j:=1) rfl;rwa [←Nat.add_assoc]at this
 have c2:W.cell? ⟨g,14+i*8+2,none⟩=some (.int .i64 s.v.n):=by have:=h'.reg hs (j:=2) rfl;rwa [←Nat.add_assoc]at this
 have c3:W.cell? ⟨g,14+i*8+3,none⟩=some (.float .f64 s.v.f):=by have:=h'.reg hs (j:=3) rfl;rwa [←Nat.add_assoc]at this
 have c4:W.cell? ⟨g,14+i*8+4,none⟩=some (.string s.v.s):=by have:=h'.reg hs (j:=4) rfl;rwa [←Nat.add_assoc]at this
 have c5:W.cell? ⟨g,14+i*8+5,none⟩=some (.int .i64 s.v.r):=by have:=h'.reg hs (j:=5) rfl;rwa [←Nat.add_assoc]at this
 have c6:W.cell? ⟨g,14+i*8+6,none⟩=some s.b:=by have:=h'.reg hs (j:=6) rfl;rwa [←Nat.add_assoc]at this
 have c7:W.cell? ⟨g,14+i*8+7,none⟩=some s.l:=by have:=h'.reg hs (j:=7) rfl;rwa [←Nat.add_assoc]at this
 have z:=blk_frozen h'
 have d1:W.cell? ⟨w.heap.size,1,none⟩=some (.int .i64 (i:Int)):=by rw[blk_cell bn];rfl
 have HC:Hid (CallAt W g c):=h'
 have HB:Hid (ButL [g] w W):=ButL.of_below hb
 clear h h' hb bn
 go_enter Tryz.func110,Tryz.ntmps110
 go_wp2_with fail
 clear hW
 go_region
 go_wp2_with fail
 go_ret
 exact⟨rfl,(HC.out.set8 (by omega) sd0).drew,(but8 HB.out (.inl (by simp)) sd0).drew⟩
theorem run_fldL (h0:Int) (v:VD) (pb la:Option Addr) (ln lc:Nat) (w:World):(Instr.field 207 (.agg #[.int .i64 h0,.int .i64 v.k,.int .i64 v.n,.float .f64 v.f,.string v.s,.int .i64 v.r,.pointer pb,.slice la ln lc]) 3).run Tryz.prog w=.ok (.slice la ln lc) w:=by kernel_rfl
theorem list_neg (g i:Nat) (x:Int) (h0:Int) (v:VD) (pb la:Option Addr) (ln lc:Nat) (c:CallD) (w:World) (h:CallAt w g c) (hr:c.regs.length=250) (hi:i<250) (hx:x<0) (hxi:-1-x=(i:Int)) (hs:c.regs[i]?=some ⟨h0,v,.pointer pb,.slice la ln lc⟩) :
  Calls Tryz.prog 168 #[.pointer (some ⟨g,0,none⟩),.int .i64 x] w fun e w'=>e=.returned (.slice la ln lc)∧CallAt w' g { c with regs:=c.regs.set i sd0 }∧ButL [g] w w':=by
 have hx0:¬(0:Int)≤x:=by omega
 have hF:=run_fldL h0 v pb la ln lc
 have HC:Hid (CallAt w g c):=h
 clear h
 go_enter Tryz.func168,Tryz.ntmps168
 go_wp2_with fail
 refine (operand_neg g i x h0 v pb la ln lc c _ HC.out hr hi hx hxi hs).mono ?_
 rintro e w1 ⟨rfl,h1,hb1⟩
 have H1:Hid _:=h1
 have HB1:Hid _:=hb1
 clear h1 hb1
 go_wp2_with fail
 go_ret
 exact⟨rfl,H1.out,HB1.out⟩
theorem doReturn_any (pm:Value) (g i:Nat) (n:ID) (h0:Int) (v:VD) (pb la:Option Addr) (ln lc:Nat) (c:CallD) (w:World) (h:CallAt w g c) (hr:c.regs.length=250) (hi:i<250) (hx:n.a<0) (hxi:-1-n.a=(i:Int)) (hs:c.regs[i]?=some ⟨h0,v,.pointer pb,.slice la ln lc⟩) :
  Calls Tryz.prog 98 #[pm,.pointer (some ⟨g,0,none⟩),insV n] w fun e w'=>∃gr,e=.returned (.iface 154 (.pointer (some ⟨gr,0,none⟩)))∧w.heap.size≤gr∧w'.heap[gr]?=some (.cells #[.slice la ln lc] 156)∧CallAt w' g { c with regs:=c.regs.set i sd0 }∧ButL [g] w w':=by
 obtain⟨op,a,b,cc,d⟩:=n
 dsimp only[insV]at hx hxi ⊢
 have HB:Hid _:=bw1 w (InO ⟨op,a,b,cc,d⟩)
 have HC:Hid (CallAt (w.alloc (InO ⟨op,a,b,cc,d⟩)) g c):=h.later HB.out
 clear h
 go_enter Tryz.func98,Tryz.ntmps98
 go_wp2_with fail
 refine (list_neg g i a h0 v pb la ln lc c _ HC.out hr hi hx hxi hs).mono ?_
 rintro e w1 ⟨rfl,h1,hb1⟩
 have H1:Hid _:=h1
 have HB1:Hid _:=(ButL.of_below HB.out).trans hb1
 clear h1 hb1
 go_wp2_with fail
 go_ret
 refine⟨w1.heap.size,rfl,HB1.out.size,blk_new _ _,CallAt.later H1.out (bw1 _ _),HB1.out.alloc _⟩
end Go.Proofs.YtjglgbepobmjhaaGreatDoor.M
namespace Go.Proofs.YtjglgbepobmjhaaGreatDoor.M
open Go.RowKit
attribute [local go_sem] run_store_float
def pC (g:Nat):List Value:=[.pointer (some ⟨g,0,none⟩)]
theorem pC_len (g:Nat):(pC g).length=1:=rfl
abbrev ShO:Obj:=.cells #[.int .i64 0,.pointer none,.int .i64 0,.int .i64 0,.float .f64 0,.string ⟨#[]⟩,.int .i64 0] 300
theorem spend_ok (g:Nat) (m:MachD) (k:Int) (w:World) (h:MachAt w g m) (hk:0≤k) (h0:0≤m.living) (h1:0≤m.since) (h2:m.living+m.since+k≤m.cells) (h3:m.cells≤1000000) (h4:0≤m.made) (h5:m.made≤1000000) :
  Calls Tryz.prog 164 #[.pointer (some ⟨g,0,none⟩),.int .i64 k] w fun e w'=>e=.returned .nilIface∧MachAt w' g { m with since:=m.since+k,made:=m.made+k }∧ButL [g] w w':=by
 have c79:w.cell? ⟨g,79,none⟩=some (.int .i64 m.living):=by rw[h.cell];rfl
 have c80:w.cell? ⟨g,80,none⟩=some (.int .i64 m.since):=by rw[h.cell];rfl
 have c5:w.cell? ⟨g,5,none⟩=some (.int .i64 m.cells):=by rw[h.cell];rfl
 have c13:w.cell? ⟨g,13,none⟩=some (.int .i64 m.made):=by rw[h.cell];rfl
 have z:=blk_frozen h
 have HM:Hid (MachAt w g m):=h
 have hle:¬m.cells<m.living+m.since+k:=by omega
 clear h
 go_enter Tryz.func164,Tryz.ntmps164
 go_wp2_with fail
 go_quiet (fail)
 go_wp2_with fail
 go_ret
 refine⟨rfl,?_,(((ButL.refl _ _).drewN nq).set (by simp) _ _).set (by simp) _ _⟩
 have h9:=blk_set (blk_set (w:=w.drewN nq) HM.out 80 (.int .i64 (m.since+k))) 13 (.int .i64 (m.made+k))
 rw[MachD.set_since,MachD.set_made]at h9
 exact h9
theorem blk5 {W:World} {g q:Nat} {o:Obj} (h:W.heap[g]?=some o) (hne:q≠g) (v0 v1 v2 v3 v4:Value):(((((W.setCell ⟨q,0,none⟩ v0).setCell ⟨q,1,none⟩ v1).setCell ⟨q,2,none⟩ v2).setCell ⟨q,3,none⟩ v3).setCell ⟨q,4,none⟩ v4).heap[g]?=some o :=
 blk_other (blk_other (blk_other (blk_other (blk_other h hne _ _) hne _ _) hne _ _) hne _ _) hne _ _
theorem row5 {α:Type} {W:World} {q B:Nat} {et:TypeId} {k:Nat} {cells:α→List Value} {sv:Value} {xs:List α} (h:ORow W B et k cells sv xs) (hne:sv.ownBlock≠some q) (v0 v1 v2 v3 v4:Value):ORow (((((W.setCell ⟨q,0,none⟩ v0).setCell ⟨q,1,none⟩ v1).setCell ⟨q,2,none⟩ v2).setCell ⟨q,3,none⟩ v3).setCell ⟨q,4,none⟩ v4) B et k cells sv xs :=
 ORow.set_own (ORow.set_own (ORow.set_own (ORow.set_own (ORow.set_own h hne _ _) hne _ _) hne _ _) hne _ _) hne _ _
theorem but5 {S:List Nat} {w0 W:World} {q:Nat} (h:ButL S w0 W) (hq:w0.heap.size≤q) (v0 v1 v2 v3 v4:Value):ButL S w0 (((((W.setCell ⟨q,0,none⟩ v0).setCell ⟨q,1,none⟩ v1).setCell ⟨q,2,none⟩ v2).setCell ⟨q,3,none⟩ v3).setCell ⟨q,4,none⟩ v4) :=
 ((((h.setn hq _ _).setn hq _ _).setn hq _ _).setn hq _ _).setn hq _ _
def tabV (n:Nat):VD:=⟨5,0,0,⟨#[]⟩,n⟩
theorem newTable_any (B g:Nat) (m:MachD) (gs:List Nat) (w:World) (h:MachAt w g m) (ho:ORow w B 292 1 pC m.tables gs) (hl:gs.length≤100000) (hB:B≤w.heap.size) :
  Calls Tryz.prog 165 #[.pointer (some ⟨g,0,none⟩)] w fun e w'=>e=.returned (.agg #[.int .i64 5,.int .i64 0,.float .f64 0,.string ⟨#[]⟩,.int .i64 (gs.length:Int)])∧∃tv gn,MachAt w' g { m with tables:=tv }∧ORow w' B 292 1 pC tv (gs++[gn])∧w.heap.size≤gn∧w'.heap[gn]?=some ShO∧ButL (g :: m.tables.ownBlock.toList) w w':=by
 obtain⟨ag,cg,hgv⟩:=ho.val
 obtain⟨W,hW⟩:∃W,w.alloc (.cells #[.int .i64 0,.int .i64 0,.float .f64 0,.string ⟨#[]⟩,.int .i64 0] 70)=W:=⟨_,rfl⟩
 have hb:=bw1 w (.cells #[.int .i64 0,.int .i64 0,.float .f64 0,.string ⟨#[]⟩,.int .i64 0] 70)
 have bn:=blk_new w (.cells #[.int .i64 0,.int .i64 0,.float .f64 0,.string ⟨#[]⟩,.int .i64 0] 70)
 have hsz:W.heap.size=w.heap.size+1:=by rw[←hW];simp
 rw[hW]at hb bn
 have h':MachAt W g m:=h.later hb
 have hgl:=blk_lt h
 have c72:W.cell? ⟨g,72,none⟩=some (.slice ag gs.length cg):=by rw[h'.cell,←hgv];rfl
 have hb2:=bw2 W ShO (.cells #[.pointer (some ⟨w.heap.size+1,0,none⟩)] 292)
 have ho2:=(ho.later hb).later hb2
 rw[hgv]at ho2
 obtain⟨g',cap',w2,hr,ho3,hg3⟩:=ho2.app 94 8 Tryz.underlying94 (by kernel_rfl) (by omega) (by omega) (w.heap.size+1) (w.heap.size+1+1) 94 (show ((W.alloc ShO).alloc (.cells #[.pointer (some ⟨w.heap.size+1,0,none⟩)] 292)).heap[w.heap.size+1+1]?=_ from blk_newn (by simp;omega) _) rfl (by intro u hu;simp[pC]at hu;subst hu;rfl) (by omega) (by simp;omega)
 have hown:∀q,(Value.slice ag gs.length cg).ownBlock=some q→q<w.heap.size∧q≠g:=by
  intro q e
  rw[hgv]at ho
  rcases ho.2 with ⟨e1,_⟩ | ⟨g0,c0,cur,e1,_,e3,_⟩
  ·rw[e1]at e;cases e
  ·rw[e1]at e
   have e':g0=q:=Option.some.inj e
   subst e'
   refine⟨blk_lt e3,?_⟩
   rintro rfl
   rw[show w.heap[g0]?=_ from h]at e3
   cases e3
 have hx:∀(q:Nat) o,((W.alloc ShO).alloc (.cells #[.pointer (some ⟨w.heap.size+1,0,none⟩)] 292)).heap[q]?=some o→(Value.slice ag gs.length cg).ownBlock≠some q→w2.heap[q]?=some o:=fun q o hq hn=>(hg3.block q (blk_lt hq) (fun e=>hn e.symm)).trans hq
 have h2:MachAt w2 g m:=hx g _ (blk_old (blk_old h' _) _) (fun e=>(hown g e).2 rfl)
 have p72:w2.cell? ⟨g,72,none⟩=some (.slice ag gs.length cg):=by rw[h2.cell,←hgv];rfl
 have z2:=blk_frozen h2
 have hn2:w2.heap[w.heap.size+1]?=some ShO:=hx _ _ (blk_old (blk_newn (by omega) _) _) (fun e=>by have:=(hown _ e).1;omega)
 have hr2:w2.heap[w.heap.size]?=some (.cells #[.int .i64 0,.int .i64 0,.float .f64 0,.string ⟨#[]⟩,.int .i64 0] 70):=hx _ _ (blk_old (blk_old bn _) _) (fun e=>by have:=(hown _ e).1;omega)
 obtain⟨W3,hW3⟩:∃W3,w2.setCell ⟨g,72,none⟩ (.slice (some ⟨g',0,none⟩) (gs.length+1) cap')=W3:=⟨_,rfl⟩
 have HE:Hid (MachAt W3 g { m with tables:=.slice (some ⟨g',0,none⟩) (gs.length+1) cap' }∧ORow W3 B 292 1 pC (.slice (some ⟨g',0,none⟩) (gs.length+1) cap') (gs++[w.heap.size+1])∧w.heap.size≤w.heap.size+1∧W3.heap[w.heap.size+1]?=some ShO∧ButL (g :: m.tables.ownBlock.toList) w W3):=by
  rw[←hW3]
  refine⟨?_,ORow.set_own ho3 (fun e=>?_) _ _,by omega,blk_other hn2 (by omega) _ _,?_⟩
  ·have:=blk_set h2 72 (.slice (some ⟨g',0,none⟩) (gs.length+1) cap')
   rw[MachD.set_tables]at this
   exact this
  ·have e':g'=g:=Option.some.inj e
   subst e'
   rcases ho3.2 with ⟨e1,_⟩ | ⟨g0,c0,cur,e1,_,e3,_⟩
   ·cases e1
   ·injection e1 with e1 _ _;injection e1 with e1;injection e1 with e1;subst e1;rw[show w2.heap[g']?=_ from h2]at e3;cases e3
  ·refine ButL.set ?_ (by simp) _ _
   rw[hgv]
   refine ButL.grown ((ButL.of_below hb).thenB hb2) hg3 (fun q e=>.inl (by rw[e];simp))
 have hr3:W3.heap[w.heap.size]?=some (.cells #[.int .i64 0,.int .i64 0,.float .f64 0,.string ⟨#[]⟩,.int .i64 0] 70):=by rw[←hW3];exact blk_other hr2 (by omega) _ _
 have q72:W3.cell? ⟨g,72,none⟩=some (.slice (some ⟨g',0,none⟩) (gs.length+1) cap'):=by rw[HE.out.1.cell];rfl
 have r0:W3.cell? ⟨w.heap.size,0,none⟩=some (.int .i64 0):=by rw[blk_cell hr3];rfl
 have r1:W3.cell? ⟨w.heap.size,1,none⟩=some (.int .i64 0):=by rw[blk_cell hr3];rfl
 have r2:W3.cell? ⟨w.heap.size,2,none⟩=some (.float .f64 0):=by rw[blk_cell hr3];rfl
 have r3:W3.cell? ⟨w.heap.size,3,none⟩=some (.string ⟨#[]⟩):=by rw[blk_cell hr3];rfl
 have r4:W3.cell? ⟨w.heap.size,4,none⟩=some (.int .i64 0):=by rw[blk_cell hr3];rfl
 have z3:=blk_frozen hr3
 have HR:Hid _:=hr
 have hr4:=hr3
 clear hr ho3 hg3 hx h2 hn2 ho2 hb2 ho h' h bn hb hr2 hr3 hown
 go_enter Tryz.func165,Tryz.ntmps165
 go_wp2_with (at_builtin;refine wpList_append_run rfl _ _ _ rfl _ _ _ _ rfl rfl HR.out ?_)
 refine bodyPost_ret (v:=.agg #[.int .i64 5,.int .i64 0,.float .f64 0,.string ⟨#[]⟩,.int .i64 (gs.length:Int)]) (by simp[results,Tryz.results165,go_sem,r0,r1,r2,r3,r4]) rfl ⟨rfl,.slice (some ⟨g',0,none⟩) (gs.length+1) cap',w.heap.size+1,?_⟩
 obtain⟨e1,e2,e3,e4,e5⟩:=HE.out
 refine⟨blk5 e1 (by omega) _ _ _ _ _,row5 e2 (fun e=>?_) _ _ _ _ _,e3,blk5 e4 (by omega) _ _ _ _ _,but5 e5 (Nat.le_refl _) _ _ _ _ _⟩
 have e':g'=w.heap.size:=Option.some.inj e
 subst e'
 rcases e2.2 with ⟨x1,_⟩ | ⟨g0,c0,cur,x1,_,x3,_⟩
 ·cases x1
 ·injection x1 with x1 _ _;injection x1 with x1;injection x1 with x1;subst x1;rw[hr4]at x3;cases x3
theorem run_fldV (c k n:Int) (f:Nat) (s:ByteArray) (r:Int) (w:World):(Instr.field 260 (.agg #[.int .i64 c,.int .i64 k,.int .i64 n,.float .f64 f,.string s,.int .i64 r]) 1).run Tryz.prog w=.ok (.agg #[.int .i64 k,.int .i64 n,.float .f64 f,.string s,.int .i64 r]) w:=by kernel_rfl
theorem gaveInt_any (n:Int) (w:World):Calls Tryz.prog 169 #[.int .i64 n] w fun e w'=>e=.returned (.agg #[.int .i64 0,.int .i64 2,.int .i64 n,.float .f64 0,.string ⟨#[]⟩,.int .i64 0])∧Below w.heap.size w w':=by
 go_enter Tryz.func169,Tryz.ntmps169
 go_wp2_with fail
 exact bodyPost_ret (v:=.agg #[.int .i64 0,.int .i64 2,.int .i64 n,.float .f64 0,.string ⟨#[]⟩,.int .i64 0]) (by simp[results,Tryz.results169,go_sem]) rfl ⟨rfl,bw1 _ _⟩
theorem intValue_any (n:Int) (w:World):Calls Tryz.prog 182 #[.int .i64 n] w fun e w'=>e=.returned (.agg #[.int .i64 2,.int .i64 n,.float .f64 0,.string ⟨#[]⟩,.int .i64 0])∧Below w.heap.size w w':=by
 have hF:=run_fldV 0 2 n 0 ⟨#[]⟩ 0
 go_enter Tryz.func182,Tryz.ntmps182
 go_wp2_with fail
 refine (gaveInt_any n _).mono ?_
 rintro e w1 ⟨rfl,hx⟩
 have hr3:=blk_later hx (blk_new w (.cells #[.int .i64 0,.int .i64 0,.float .f64 0,.string ⟨#[]⟩,.int .i64 0] 70))
 have r0:w1.cell? ⟨w.heap.size,0,none⟩=some (.int .i64 0):=by rw[blk_cell hr3];rfl
 have r1:w1.cell? ⟨w.heap.size,1,none⟩=some (.int .i64 0):=by rw[blk_cell hr3];rfl
 have r2:w1.cell? ⟨w.heap.size,2,none⟩=some (.float .f64 0):=by rw[blk_cell hr3];rfl
 have r3:w1.cell? ⟨w.heap.size,3,none⟩=some (.string ⟨#[]⟩):=by rw[blk_cell hr3];rfl
 have r4:w1.cell? ⟨w.heap.size,4,none⟩=some (.int .i64 0):=by rw[blk_cell hr3];rfl
 have z3:=blk_frozen hr3
 have HB:Hid (Below w.heap.size w w1):=(bw1 _ _).trans (hx.mono (by simp))
 clear hx hr3
 go_wp2_with fail
 refine bodyPost_ret (v:=.agg #[.int .i64 2,.int .i64 n,.float .f64 0,.string ⟨#[]⟩,.int .i64 0]) (by simp[results,Tryz.results182,go_sem,r0,r1,r2,r3,r4]) rfl ⟨rfl,?_⟩
 exact ButL.nil (but5 (ButL.of_below HB.out) (Nat.le_refl _) _ _ _ _ _)
theorem entry_none (pm:Value) (name:ByteArray) (w:World):Calls Tryz.prog 132 #[pm,.agg #[.int .i64 0,.int .i64 0,.float .f64 0,.string ⟨#[]⟩,.int .i64 0],.string name] w fun e w'=>e=.returned (.agg #[.int .i64 0,.int .i64 0,.float .f64 0,.string ⟨#[]⟩,.int .i64 0])∧Below w.heap.size w w':=by
 go_enter Tryz.func132,Tryz.ntmps132
 go_wp2_with fail
 exact bodyPost_ret (v:=.agg #[.int .i64 0,.int .i64 0,.float .f64 0,.string ⟨#[]⟩,.int .i64 0]) (by simp[results,Tryz.results132,go_sem]) rfl ⟨rfl,bw2 _ _ _⟩
theorem handler_none (B g r gn:Nat) (m:MachD) (gs:List Nat) (name:ByteArray) (w:World) (h:MachAt w g m) (ho:ORow w B 292 1 pC m.tables gs) (hr:gs[r]?=some gn) (hn:w.heap[gn]?=some ShO) (hl:gs.length≤100000) :
  Calls Tryz.prog 185 #[.pointer (some ⟨g,0,none⟩),.agg #[.int .i64 5,.int .i64 0,.float .f64 0,.string ⟨#[]⟩,.int .i64 (r:Int)],.string name] w fun e w'=>e=.returned (.agg #[.int .i64 0,.int .i64 0,.float .f64 0,.string ⟨#[]⟩,.int .i64 0])∧Below w.heap.size w w':=by
 have hrl:r<gs.length:=(List.getElem?_eq_some_iff.1 hr).1
 obtain⟨ga,cap,hgv,_,_,hs,_,_⟩:=ho.open pC_len (by omega)
 obtain⟨b,off,e0,_,hc⟩:=hs r gn hr
 have e1:ga=b∧0=off:=by injection e0 with e0;injection e0 with e1 e2;exact⟨e1,e2⟩
 obtain⟨rfl,rfl⟩:=e1
 have cr:w.cell? ⟨ga,r,none⟩=some (.pointer (some ⟨gn,0,none⟩)):=by have:=hc 0 _ rfl;simpa using this
 have c72:w.cell? ⟨g,72,none⟩=some (.slice (some ⟨ga,0,none⟩) gs.length cap):=by rw[h.cell,←hgv];rfl
 have k2:w.cell? ⟨gn,2,none⟩=some (.int .i64 0):=by rw[blk_cell hn];rfl
 have k3:w.cell? ⟨gn,3,none⟩=some (.int .i64 0):=by rw[blk_cell hn];rfl
 have k4:w.cell? ⟨gn,4,none⟩=some (.float .f64 0):=by rw[blk_cell hn];rfl
 have k5:w.cell? ⟨gn,5,none⟩=some (.string ⟨#[]⟩):=by rw[blk_cell hn];rfl
 have k6:w.cell? ⟨gn,6,none⟩=some (.int .i64 0):=by rw[blk_cell hn];rfl
 obtain⟨W,hW⟩:∃W,(w.alloc (.cells #[.int .i64 5,.int .i64 0,.float .f64 0,.string ⟨#[]⟩,.int .i64 (r:Int)] 70)).alloc (.cells #[.int .i64 0,.int .i64 0,.float .f64 0,.string ⟨#[]⟩,.int .i64 0] 70)=W:=⟨_,rfl⟩
 have hb:Below w.heap.size w W:=by rw[←hW];exact bw2 _ _ _
 have b0:W.heap[w.heap.size]?=some (.cells #[.int .i64 5,.int .i64 0,.float .f64 0,.string ⟨#[]⟩,.int .i64 (r:Int)] 70):=by rw[←hW];exact blk_old (blk_new _ _) _
 have b1:W.heap[w.heap.size+1]?=some (.cells #[.int .i64 0,.int .i64 0,.float .f64 0,.string ⟨#[]⟩,.int .i64 0] 70):=by rw[←hW];exact blk_newn (by simp) _
 have d0:W.cell? ⟨w.heap.size,0,none⟩=some (.int .i64 5):=by rw[blk_cell b0];rfl
 have d4:W.cell? ⟨w.heap.size,4,none⟩=some (.int .i64 (r:Int)):=by rw[blk_cell b0];rfl
 replace cr:=cell_later hb cr
 replace c72:=cell_later hb c72
 replace k2:=cell_later hb k2
 replace k3:=cell_later hb k3
 replace k4:=cell_later hb k4
 replace k5:=cell_later hb k5
 replace k6:=cell_later hb k6
 have HB:Hid (Below w.heap.size w W):=hb
 have HB1:Hid _:=b1
 have hrz:(0:Int)≤(r:Int):=by omega
 have hrz2:(r:Int)<(gs.length:Int):=by omega
 clear ho hs hc h hn b0 b1 hb
 go_enter Tryz.func185,Tryz.ntmps185
 go_wp2_with fail
 clear hW
 go_region_with (go_at_call 132;refine (entry_none _ _ _).mono ?_;rintro e w1 ⟨rfl,hx⟩;replace hx:=und1 hx;have h9:=blk_later hx HB1.out;have r0:w1.cell? ⟨w.heap.size+1,0,none⟩=some (.int .i64 0):=(by rw[blk_cell h9];rfl);have r1:w1.cell? ⟨w.heap.size+1,1,none⟩=some (.int .i64 0):=(by rw[blk_cell h9];rfl);have r2:w1.cell? ⟨w.heap.size+1,2,none⟩=some (.float .f64 0):=(by rw[blk_cell h9];rfl);have r3:w1.cell? ⟨w.heap.size+1,3,none⟩=some (.string ⟨#[]⟩):=(by rw[blk_cell h9];rfl);have r4:w1.cell? ⟨w.heap.size+1,4,none⟩=some (.int .i64 0):=(by rw[blk_cell h9];rfl);have z3:=blk_frozen h9;have HX:Hid (Below w.heap.size w w1):=HB.out.trans (hx.mono HB.out.size);clear hx h9)
 all_goals
  go_wp2_with fail
  refine bodyPost_ret (v:=.agg #[.int .i64 0,.int .i64 0,.float .f64 0,.string ⟨#[]⟩,.int .i64 0]) (by simp[results,Tryz.results185,go_sem,r0,r1,r2,r3,r4]) rfl ⟨rfl,?_⟩
  exact ButL.nil (but5 (ButL.of_below HX.out) (by omega) _ _ _ _ _)
end Go.Proofs.YtjglgbepobmjhaaGreatDoor.M
