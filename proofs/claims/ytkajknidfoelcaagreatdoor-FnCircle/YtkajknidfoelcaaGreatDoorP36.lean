import Derived.Test.YtkajknidfoelcaaGreatDoorP35
set_option linter.unusedVariables false
set_option linter.unusedSimpArgs false
set_option maxRecDepth 20000
set_option maxHeartbeats 8000000
namespace Go.Proofs.YtkajknidfoelcaaGreatDoor.U
open Go.RowKit M T
attribute [local go_sem] run_store_float
theorem elem_one (g:Nat) (v:VD) (w:World) (h:w.heap[g]?=some (vO v)):Calls Tryz.prog 129 #[.slice (some ⟨g,0,none⟩) 1 1,.int .i64 0] w fun e w'=>e=.returned (.agg #[.int .i64 v.k,.int .i64 v.n,.float .f64 v.f,.string v.s,.int .i64 v.r])∧Below w.heap.size w w':=by
 obtain⟨W,hW⟩:∃W,w.alloc ZvO=W:=⟨_,rfl⟩
 have hb:Below w.heap.size w W:=by rw[←hW];exact bw1 _ _
 have bz:W.heap[w.heap.size]?=some ZvO:=by rw[←hW];exact blk_new _ _
 obtain⟨d0,d1,d2,d3,d4⟩:=vO_cells (blk_later hb h)
 have r0:W.cell? ⟨w.heap.size,0,none⟩=some (.int .i64 0):=by rw[blk_cell bz];rfl
 have r1:W.cell? ⟨w.heap.size,1,none⟩=some (.int .i64 0):=by rw[blk_cell bz];rfl
 have r2:W.cell? ⟨w.heap.size,2,none⟩=some (.float .f64 0):=by rw[blk_cell bz];rfl
 have r3:W.cell? ⟨w.heap.size,3,none⟩=some (.string ⟨#[]⟩):=by rw[blk_cell bz];rfl
 have r4:W.cell? ⟨w.heap.size,4,none⟩=some (.int .i64 0):=by rw[blk_cell bz];rfl
 have z:=blk_frozen bz
 have HB:Hid (Below w.heap.size w W):=hb
 clear hb bz h
 go_enter Tryz.func129,Tryz.ntmps129
 go_wp2_with fail
 refine bodyPost_ret (v:=.agg #[.int .i64 v.k,.int .i64 v.n,.float .f64 v.f,.string v.s,.int .i64 v.r]) (by simp[results,Tryz.results129,go_sem,r0,r1,r2,r3,r4]) rfl ⟨rfl,?_⟩
 exact ButL.nil (but5 (ButL.of_below HB.out) (Nat.le_refl _) _ _ _ _ _)
theorem first_one (g:Nat) (v:VD) (w:World) (h:w.heap[g]?=some (vO v)):Calls Tryz.prog 163 #[.slice (some ⟨g,0,none⟩) 1 1] w fun e w'=>e=.returned (.agg #[.int .i64 v.k,.int .i64 v.n,.float .f64 v.f,.string v.s,.int .i64 v.r])∧Below w.heap.size w w':=by
 have HG:Hid ((w.alloc ZvO).heap[g]?=some (vO v)):=blk_later (bw1 _ _) h
 clear h
 go_enter Tryz.func163,Tryz.ntmps163
 go_wp2_with fail
 refine (elem_one g v _ HG.out).mono ?_
 rintro e w1 ⟨rfl,hx⟩
 have hr3:=blk_later hx (blk_new w ZvO)
 have r0:w1.cell? ⟨w.heap.size,0,none⟩=some (.int .i64 0):=by rw[blk_cell hr3];rfl
 have r1:w1.cell? ⟨w.heap.size,1,none⟩=some (.int .i64 0):=by rw[blk_cell hr3];rfl
 have r2:w1.cell? ⟨w.heap.size,2,none⟩=some (.float .f64 0):=by rw[blk_cell hr3];rfl
 have r3:w1.cell? ⟨w.heap.size,3,none⟩=some (.string ⟨#[]⟩):=by rw[blk_cell hr3];rfl
 have r4:w1.cell? ⟨w.heap.size,4,none⟩=some (.int .i64 0):=by rw[blk_cell hr3];rfl
 have z3:=blk_frozen hr3
 have HX:Hid (Below w.heap.size w w1):=(bw1 _ _).trans (hx.mono (by simp))
 clear hx hr3
 go_wp2_with fail
 refine bodyPost_ret (v:=.agg #[.int .i64 v.k,.int .i64 v.n,.float .f64 v.f,.string v.s,.int .i64 v.r]) (by simp[results,Tryz.results163,go_sem,r0,r1,r2,r3,r4]) rfl ⟨rfl,?_⟩
 exact ButL.nil (but5 (ButL.of_below HX.out) (Nat.le_refl _) _ _ _ _ _)
theorem fld_k (k n:Int) (f:Nat) (s:ByteArray) (r:Int) (w:World):(Instr.field 47 (.agg #[.int .i64 k,.int .i64 n,.float .f64 f,.string s,.int .i64 r]) 0).run Tryz.prog w=.ok (.int .i64 k) w:=by kernel_rfl
theorem nextCall_go (gm gf:Nat) (n:ID) (m:MachD) (c:CallD) (w:World) (hm:MachAt w gm m) (hc:CallAt w gf c) (hr:c.regs.length=250) (hcc:n.c=4) (he:m.rticks+1<m.ticks) (hz:0≤m.rticks) (ht:m.ticks≤100000) :
  Calls Tryz.prog 189 #[.pointer (some ⟨gm,0,none⟩),.pointer (some ⟨gf,0,none⟩),insV n,txA] w fun e w'=>e=.returned .nilIface∧∃g,MachAt w' gm { m with rticks:=m.rticks+1+1 }∧CallAt w' gf { c with regs:=c.regs.set 4 (sdL (.slice (some ⟨g,0,none⟩) 1 1)) }∧ButL [gm,gf] w w':=by
 obtain⟨op,a,b,cc,d⟩:=n
 dsimp only[insV]at hcc ⊢
 subst hcc
 have hmf:gm≠gf:=ne_ty hm hc (by decide)
 obtain⟨W,hW⟩:∃W,(w.alloc (InO ⟨op,a,b,4,d⟩)).alloc (vO ⟨8,3,0,⟨#[]⟩,0⟩)=W:=⟨_,rfl⟩
 have hbw:Below w.heap.size w W:=by rw[←hW];exact bw2 _ _ _
 have bn:W.heap[w.heap.size]?=some (InO ⟨op,a,b,4,d⟩):=by rw[←hW];exact blk_old (blk_new _ _) _
 have bv:W.heap[w.heap.size+1]?=some (vO ⟨8,3,0,⟨#[]⟩,0⟩):=by rw[←hW];exact blk_newn (by simp) _
 have HM:Hid (MachAt W gm m):=hm.later hbw
 have HC:Hid (CallAt W gf c):=hc.later hbw
 have HB:Hid (Below w.heap.size w W):=hbw
 have HI:Hid (W.heap[w.heap.size]?=some (InO ⟨op,a,b,4,d⟩)∧W.heap[w.heap.size+1]?=some (vO ⟨8,3,0,⟨#[]⟩,0⟩)):=⟨bn,bv⟩
 have HNE:Hid (w.heap.size≠gm∧w.heap.size+1≠gm):=by have:=blk_lt hm;show _∧_;omega
 clear hm hc hbw bn bv
 go_enter Tryz.func189,Tryz.ntmps189
 go_wp2_with fail
 clear hW
 refine (tick_go gm m _ HM.out (by omega) hz ht).mono ?_
 rintro e w1 ⟨rfl,hm1,hb1⟩
 have bn1:=hb1.blk HI.out.1 (by simp;exact HNE.out.1)
 have bv1:=hb1.blk HI.out.2 (by simp;exact HNE.out.2)
 obtain⟨e0,e1,e2,e3,e4⟩:=vO_cells bv1
 have HM1:Hid (MachAt w1 gm { m with rticks:=m.rticks+1 }):=hm1
 have HC1:Hid (CallAt w1 gf c):=HC.out.but hb1 (by simp;exact fun e=>hmf e.symm)
 have HB1:Hid (ButL [gm,gf] w w1):=(ButL.of_below HB.out).trans (hb1.mono (fun q hq=>.inl (by simp at hq;subst hq;simp)))
 have HI1:Hid (w1.heap[w.heap.size]?=some (InO ⟨op,a,b,4,d⟩)):=bn1
 clear hm1 hb1 bn1 bv1
 go_wp2_with fail
 refine (callt_go gm { m with rticks:=m.rticks+1 } _ HM1.out (by show m.rticks+1<m.ticks;omega) (by show 0≤m.rticks+1;omega) ht).mono ?_
 rintro e w2 ⟨g,rfl,hg,hge,hm2,hb2⟩
 have HG2:Hid (w2.heap[g]?=some (vO (strD ⟨#[110,105,108]⟩))):=hg
 have HM2:Hid (MachAt w2 gm { m with rticks:=m.rticks+1+1 }):=hm2
 have HC2:Hid (CallAt w2 gf c):=HC1.out.but hb2 (by simp;exact fun e=>hmf e.symm)
 have HB2:Hid (ButL [gm,gf] w w2):=HB1.out.trans (hb2.mono (fun q hq=>.inl (by simp at hq;subst hq;simp)))
 have HI2:Hid (w2.heap[w.heap.size]?=some (InO ⟨op,a,b,4,d⟩)):=hb2.blk HI1.out (by simp;exact HNE.out.1)
 clear hg hge hm2 hb2 e0 e1 e2 e3 e4
 go_wp2_with fail
 refine (first_one g _ _ HG2.out).mono ?_
 rintro e w3 ⟨rfl,hx3⟩
 have HM3:Hid (MachAt w3 gm { m with rticks:=m.rticks+1+1 }):=HM2.out.later hx3
 have HC3:Hid (CallAt w3 gf c):=HC2.out.later hx3
 have HB3:Hid (ButL [gm,gf] w w3):=HB2.out.thenB hx3
 have d3:w3.cell? ⟨w.heap.size,3,none⟩=some (.int .i64 4):=by rw[blk_cell (blk_later hx3 HI2.out)];rfl
 have hfk:=fld_k
 clear hx3
 unfold strD
 go_wp2_with fail
 refine (putList_any gf 4 1 1 (some ⟨g,0,none⟩) c _ HC3.out hr (by omega)).mono ?_
 rintro e w4 ⟨rfl,hc4,hb4⟩
 have HC4:Hid (CallAt w4 gf { c with regs:=c.regs.set 4 (sdL (.slice (some ⟨g,0,none⟩) 1 1)) }):=hc4
 have HM4:Hid (MachAt w4 gm { m with rticks:=m.rticks+1+1 }):=MachAt.but HM3.out hb4 (by simp;exact hmf)
 have HB4:Hid (ButL [gm,gf] w w4):=HB3.out.trans (hb4.mono (fun q hq=>.inl (by simp at hq;subst hq;simp)))
 clear hc4 hb4
 go_wp2_with fail
 go_ret
 exact⟨rfl,g,HM4.out,HC4.out,HB4.out⟩
theorem nextCall_ov1 (p:Option Addr) (gm gf:Nat) (n:ID) (m:MachD) (w:World) (hm:MachAt w gm m) (ho:OvV w p) (he:m.rticks=m.ticks) :
  Calls Tryz.prog 189 #[.pointer (some ⟨gm,0,none⟩),.pointer (some ⟨gf,0,none⟩),insV n,txA] w fun e w'=>e=.returned (ovI p)∧Below w.heap.size w w':=by
 obtain⟨op,a,b,cc,d⟩:=n
 dsimp only[insV]
 obtain⟨W,hW⟩:∃W,(w.alloc (InO ⟨op,a,b,cc,d⟩)).alloc (vO ⟨8,3,0,⟨#[]⟩,0⟩)=W:=⟨_,rfl⟩
 have hbw:Below w.heap.size w W:=by rw[←hW];exact bw2 _ _ _
 have HM:Hid (MachAt W gm m):=hm.later hbw
 have HO:Hid (OvV W p):=ho.later hbw
 have HB:Hid (Below w.heap.size w W):=hbw
 clear hm ho hbw
 go_enter Tryz.func189,Tryz.ntmps189
 go_wp2_with fail
 clear hW
 refine (tick_over gm m p _ HM.out HO.out he).mono ?_
 rintro e w1 ⟨rfl,hx1⟩
 have HX1:Hid (Below w.heap.size w w1):=HB.out.trans (hx1.mono HB.out.size)
 clear hx1
 unfold ovI
 go_wp2_with fail
 go_ret
 exact⟨rfl,HX1.out⟩
theorem nextCall_ov2 (p:Option Addr) (gm gf:Nat) (n:ID) (m:MachD) (w:World) (hm:MachAt w gm m) (ho:OvV w p) (he:m.rticks+1=m.ticks) (hz:0≤m.rticks) (ht:m.ticks≤100000) (hog:2≠gm) :
  Calls Tryz.prog 189 #[.pointer (some ⟨gm,0,none⟩),.pointer (some ⟨gf,0,none⟩),insV n,txA] w fun e w'=>e=.returned (ovI p)∧MachAt w' gm { m with rticks:=m.rticks+1 }∧ButL [gm] w w':=by
 obtain⟨op,a,b,cc,d⟩:=n
 dsimp only[insV]
 obtain⟨W,hW⟩:∃W,(w.alloc (InO ⟨op,a,b,cc,d⟩)).alloc (vO ⟨8,3,0,⟨#[]⟩,0⟩)=W:=⟨_,rfl⟩
 have hbw:Below w.heap.size w W:=by rw[←hW];exact bw2 _ _ _
 have bv:W.heap[w.heap.size+1]?=some (vO ⟨8,3,0,⟨#[]⟩,0⟩):=by rw[←hW];exact blk_newn (by simp) _
 have HM:Hid (MachAt W gm m):=hm.later hbw
 have HO:Hid (OvV W p):=ho.later hbw
 have HB:Hid (Below w.heap.size w W):=hbw
 have HV:Hid (W.heap[w.heap.size+1]?=some (vO ⟨8,3,0,⟨#[]⟩,0⟩)):=bv
 have HNE:Hid (w.heap.size+1≠gm):=by have:=blk_lt hm;show _≠_;omega
 clear hm ho hbw bv
 go_enter Tryz.func189,Tryz.ntmps189
 go_wp2_with fail
 clear hW
 refine (tick_go gm m _ HM.out (by omega) hz ht).mono ?_
 rintro e w1 ⟨rfl,hm1,hb1⟩
 obtain⟨e0,e1,e2,e3,e4⟩:=vO_cells (hb1.blk HV.out (by simp;exact HNE.out))
 have HM1:Hid (MachAt w1 gm { m with rticks:=m.rticks+1 }):=hm1
 have HB1:Hid (ButL [gm] w w1):=(ButL.of_below HB.out).trans hb1
 have HO1:Hid (OvV w1 p):=OvV.but HO.out hb1 (by simp;exact hog)
 clear hm1 hb1
 go_wp2_with fail
 refine (callt_over gm { m with rticks:=m.rticks+1 } p .nilIface _ HM1.out HO1.out he).mono ?_
 rintro e w2 ⟨rfl,hx2⟩
 have HM2:Hid (MachAt w2 gm { m with rticks:=m.rticks+1 }):=HM1.out.later hx2
 have HB2:Hid (ButL [gm] w w2):=HB1.out.thenB hx2
 clear hx2 e0 e1 e2 e3 e4
 unfold ovI
 go_wp2_with fail
 go_ret
 exact⟨rfl,HM2.out,HB2.out⟩
structure EnR (c:CallD) (n:ID):Prop where
 len:c.regs.length=250
 a:n.a=2
 r2:c.regs[2]?=some (sdV ⟨8,3,0,⟨#[]⟩,0⟩)
 r3:c.regs[3]?=some (sdV vd0)
theorem doEachNext_any (gm gf:Nat) (n:ID) (c:CallD) (R:Value) (p:Option Addr) (hR:R=.nilIface∨R=ovI p) (Q:World→World→Prop) (w:World) (hc:CallAt w gf c) (h:EnR c n) (HQ:∀wk,Below w.heap.size w wk→Calls Tryz.prog 189 #[.pointer (some ⟨gm,0,none⟩),.pointer (some ⟨gf,0,none⟩),insV n,txA] wk fun e w'=>e=.returned R∧∃S,ButL S wk w'∧(∀g∈S,g<w.heap.size)∧Q wk w') :
  Calls Tryz.prog 111 #[.pointer (some ⟨gm,0,none⟩),.pointer (some ⟨gf,0,none⟩),insV n] w fun e w'=>e=.returned R∧∃wk w1,Below w.heap.size w wk∧Q wk w1∧∃q,w.heap.size≤q∧w'=w1.setCell ⟨q,0,none⟩ R:=by
 obtain⟨op,a,b,cc,d⟩:=n
 obtain⟨hr,ha,h2,h3⟩:=h
 dsimp only[insV]at ha HQ ⊢
 subst ha
 obtain⟨W,hW⟩:∃W,(((w.alloc (.cells #[.pointer (some ⟨gm,0,none⟩)] 70)).alloc (.cells #[.pointer (some ⟨gf,0,none⟩)] 150)).alloc (InO ⟨op,2,b,cc,d⟩)).alloc (.cells #[.nilIface] 65)=W:=⟨_,rfl⟩
 have hbw:Below w.heap.size w W:=by rw[←hW];exact (bw3 _ _ _ _).trans ((bw1 _ _).mono (by simp;omega))
 have bm:W.heap[w.heap.size]?=some (.cells #[.pointer (some ⟨gm,0,none⟩)] 70):=by rw[←hW];exact blk_old (blk_old (blk_old (blk_new _ _) _) _) _
 have bf:W.heap[w.heap.size+1]?=some (.cells #[.pointer (some ⟨gf,0,none⟩)] 150):=by rw[←hW];exact blk_old (blk_old (blk_newn (by simp) _) _) _
 have bn:W.heap[w.heap.size+1+1]?=some (InO ⟨op,2,b,cc,d⟩):=by rw[←hW];exact blk_old (blk_newn (by simp) _) _
 have be:W.heap[w.heap.size+1+1+1]?=some (.cells #[.nilIface] 65):=by rw[←hW];exact blk_newn (by simp) _
 have hc':=hc.later hbw
 have k0:W.cell? ⟨w.heap.size,0,none⟩=some (.pointer (some ⟨gm,0,none⟩)):=by rw[blk_cell bm];rfl
 have k1:W.cell? ⟨w.heap.size+1,0,none⟩=some (.pointer (some ⟨gf,0,none⟩)):=by rw[blk_cell bf];rfl
 have d1:W.cell? ⟨w.heap.size+1+1,1,none⟩=some (.int .i64 2):=by rw[blk_cell bn];rfl
 have a1:W.cell? ⟨gf,31,none⟩=some (.int .i64 8):=hc'.reg h2 (j:=1) rfl
 have a2:W.cell? ⟨gf,32,none⟩=some (.int .i64 3):=hc'.reg h2 (j:=2) rfl
 have a3:W.cell? ⟨gf,33,none⟩=some (.float .f64 0):=hc'.reg h2 (j:=3) rfl
 have a4:W.cell? ⟨gf,34,none⟩=some (.string ⟨#[]⟩):=hc'.reg h2 (j:=4) rfl
 have a5:W.cell? ⟨gf,35,none⟩=some (.int .i64 0):=hc'.reg h2 (j:=5) rfl
 have b1:W.cell? ⟨gf,39,none⟩=some (.int .i64 0):=hc'.reg h3 (j:=1) rfl
 have b2:W.cell? ⟨gf,40,none⟩=some (.int .i64 0):=hc'.reg h3 (j:=2) rfl
 have b3:W.cell? ⟨gf,41,none⟩=some (.float .f64 0):=hc'.reg h3 (j:=3) rfl
 have b4:W.cell? ⟨gf,42,none⟩=some (.string ⟨#[]⟩):=hc'.reg h3 (j:=4) rfl
 have b5:W.cell? ⟨gf,43,none⟩=some (.int .i64 0):=hc'.reg h3 (j:=5) rfl
 have HB:Hid (Below w.heap.size w W):=hbw
 have HW4:Hid (W.heap.size=w.heap.size+4):=by show _=_;rw[←hW];simp
 have HBK:Hid (∀wk,Below W.heap.size W wk→wk.heap[w.heap.size]?=some (.cells #[.pointer (some ⟨gm,0,none⟩)] 70)∧wk.heap[w.heap.size+1]?=some (.cells #[.pointer (some ⟨gf,0,none⟩)] 150)∧wk.heap[w.heap.size+1+1]?=some (InO ⟨op,2,b,cc,d⟩)∧wk.heap[w.heap.size+1+1+1]?=some (.cells #[.nilIface] 65)):=fun wk hk=>⟨blk_later hk bm,blk_later hk bf,blk_later hk bn,blk_later hk be⟩
 have HQ':Hid (∀wk,Below w.heap.size w wk→Calls Tryz.prog 189 #[.pointer (some ⟨gm,0,none⟩),.pointer (some ⟨gf,0,none⟩),.agg #[.int .i64 op,.int .i64 2,.int .i64 b,.int .i64 cc,.int .i64 d],txA] wk fun e w'=>e=.returned R∧∃S,ButL S wk w'∧(∀g∈S,g<w.heap.size)∧Q wk w'):=HQ
 have hgl:=blk_lt hc
 clear hc hc' hbw bn bm bf be HQ
 go_enter Tryz.func111,Tryz.ntmps111
 go_wp2_with fail
 clear hW
 have ix:IntKind.i64.wrap 3=3:=by decide
 have y1:=bw1 W ZvO
 have y2:=bw2 W ZvO ZvO
 have k1a:=cell_later y1 k1
 have d1a:=cell_later y1 d1
 have a1a:=cell_later y1 a1
 have a2a:=cell_later y1 a2
 have a3a:=cell_later y1 a3
 have a4a:=cell_later y1 a4
 have a5a:=cell_later y1 a5
 have b1a:=cell_later y1 b1
 have b2a:=cell_later y1 b2
 have b3a:=cell_later y1 b3
 have b4a:=cell_later y1 b4
 have b5a:=cell_later y1 b5
 have k1b:=cell_later y2 k1
 have d1b:=cell_later y2 d1
 have a1b:=cell_later y2 a1
 have a2b:=cell_later y2 a2
 have a3b:=cell_later y2 a3
 have a4b:=cell_later y2 a4
 have a5b:=cell_later y2 a5
 have b1b:=cell_later y2 b1
 have b2b:=cell_later y2 b2
 have b3b:=cell_later y2 b3
 have b4b:=cell_later y2 b4
 have b5b:=cell_later y2 b5
 clear y1 y2
 have yc:=bw1 W (vO ⟨8,3,0,⟨#[]⟩,0⟩)
 have k1c:=cell_later yc k1
 have d1c:=cell_later yc d1
 have b1c:=cell_later yc b1
 have b2c:=cell_later yc b2
 have b3c:=cell_later yc b3
 have b4c:=cell_later yc b4
 have b5c:=cell_later yc b5
 have yd:=bw2 W (vO ⟨8,3,0,⟨#[]⟩,0⟩) ZvO
 have k1d:=cell_later yd k1
 have d1d:=cell_later yd d1
 have b1d:=cell_later yd b1
 have b2d:=cell_later yd b2
 have b3d:=cell_later yd b3
 have b4d:=cell_later yd b4
 have b5d:=cell_later yd b5
 have ye:=bw2 W ZvO (vO ⟨8,3,0,⟨#[]⟩,0⟩)
 have k1e:=cell_later ye k1
 have d1e:=cell_later ye d1
 have b1e:=cell_later ye b1
 have b2e:=cell_later ye b2
 have b3e:=cell_later ye b3
 have b4e:=cell_later ye b4
 have b5e:=cell_later ye b5
 clear yc yd ye
 go_region
 all_goals clear k0 k1 d1 a1 a2 a3 a4 a5 b1 b2 b3 b4 b5 k1a d1a a1a a2a a3a a4a a5a b1a b2a b3a b4a b5a k1b d1b a1b a2b a3b a4b a5b b1b b2b b3b b4b b5b k1c d1c b1c b2c b3c b4c b5c k1d d1d b1d b2d b3d b4d b5d k1e d1e b1e b2e b3e b4e b5e
 ·have H2:Hid (Below W.heap.size W ((W.alloc (vO ⟨8,3,0,⟨#[]⟩,0⟩)).alloc ZvO)):=bw2 W (vO ⟨8,3,0,⟨#[]⟩,0⟩) ZvO
  obtain⟨m1,m2,m3,m4⟩:=HBK.out _ H2.out
  have q0:((W.alloc (vO ⟨8,3,0,⟨#[]⟩,0⟩)).alloc ZvO).cell? ⟨w.heap.size,0,none⟩=some (.pointer (some ⟨gm,0,none⟩)):=by rw[blk_cell m1];rfl
  have q1:((W.alloc (vO ⟨8,3,0,⟨#[]⟩,0⟩)).alloc ZvO).cell? ⟨w.heap.size+1,0,none⟩=some (.pointer (some ⟨gf,0,none⟩)):=by rw[blk_cell m2];rfl
  have n0:((W.alloc (vO ⟨8,3,0,⟨#[]⟩,0⟩)).alloc ZvO).cell? ⟨w.heap.size+1+1,0,none⟩=some (.int .i64 op):=by rw[blk_cell m3];rfl
  have n1:((W.alloc (vO ⟨8,3,0,⟨#[]⟩,0⟩)).alloc ZvO).cell? ⟨w.heap.size+1+1,1,none⟩=some (.int .i64 2):=by rw[blk_cell m3];rfl
  have n2:((W.alloc (vO ⟨8,3,0,⟨#[]⟩,0⟩)).alloc ZvO).cell? ⟨w.heap.size+1+1,2,none⟩=some (.int .i64 b):=by rw[blk_cell m3];rfl
  have n3:((W.alloc (vO ⟨8,3,0,⟨#[]⟩,0⟩)).alloc ZvO).cell? ⟨w.heap.size+1+1,3,none⟩=some (.int .i64 cc):=by rw[blk_cell m3];rfl
  have n4:((W.alloc (vO ⟨8,3,0,⟨#[]⟩,0⟩)).alloc ZvO).cell? ⟨w.heap.size+1+1,4,none⟩=some (.int .i64 d):=by rw[blk_cell m3];rfl
  have HM4:Hid (((W.alloc (vO ⟨8,3,0,⟨#[]⟩,0⟩)).alloc ZvO).heap[w.heap.size+1+1+1]?=some (.cells #[.nilIface] 65)):=m4
  have HBX:Hid (Below w.heap.size w ((W.alloc (vO ⟨8,3,0,⟨#[]⟩,0⟩)).alloc ZvO).drew):=(HB.out.trans (H2.out.mono HB.out.size)).drew
  clear m1 m2 m3 m4
  go_wp2_with fail
  refine (HQ'.out _ HBX.out).mono ?_
  rintro e w1 ⟨rfl,S,hS,hlt,hq⟩
  have HQ1:Hid (Q _ w1):=hq
  have m5:=hS.blk (show ((W.alloc (vO ⟨8,3,0,⟨#[]⟩,0⟩)).alloc ZvO).drew.heap[w.heap.size+1+1+1]?=_ from HM4.out) (fun h=>by have:=hlt _ h;omega)
  have c5:w1.cell? ⟨w.heap.size+1+1+1,0,none⟩=some .nilIface:=by rw[blk_cell m5];rfl
  have z5:=blk_frozen m5
  clear hS hlt hq q0 q1 n0 n1 n2 n3 n4 m5
  rcases hR with rfl | rfl
  ·go_wp2_with fail
   refine bodyPost_ret (v:=.nilIface) (by simp[results,Tryz.results111,go_sem,c5]) rfl ⟨rfl,_,w1,HBX.out,HQ1.out,w.heap.size+1+1+1,by omega,rfl⟩
  ·unfold ovI
   go_wp2_with fail
   refine bodyPost_ret (v:=.iface 487 (.pointer p)) (by simp[results,Tryz.results111,go_sem,c5]) rfl ⟨rfl,_,w1,HBX.out,HQ1.out,w.heap.size+1+1+1,by omega,rfl⟩
 ·have H2:Hid (Below W.heap.size W ((W.alloc ZvO).alloc (vO ⟨8,3,0,⟨#[]⟩,0⟩))):=bw2 W ZvO (vO ⟨8,3,0,⟨#[]⟩,0⟩)
  obtain⟨m1,m2,m3,m4⟩:=HBK.out _ H2.out
  have q0:((W.alloc ZvO).alloc (vO ⟨8,3,0,⟨#[]⟩,0⟩)).cell? ⟨w.heap.size,0,none⟩=some (.pointer (some ⟨gm,0,none⟩)):=by rw[blk_cell m1];rfl
  have q1:((W.alloc ZvO).alloc (vO ⟨8,3,0,⟨#[]⟩,0⟩)).cell? ⟨w.heap.size+1,0,none⟩=some (.pointer (some ⟨gf,0,none⟩)):=by rw[blk_cell m2];rfl
  have n0:((W.alloc ZvO).alloc (vO ⟨8,3,0,⟨#[]⟩,0⟩)).cell? ⟨w.heap.size+1+1,0,none⟩=some (.int .i64 op):=by rw[blk_cell m3];rfl
  have n1:((W.alloc ZvO).alloc (vO ⟨8,3,0,⟨#[]⟩,0⟩)).cell? ⟨w.heap.size+1+1,1,none⟩=some (.int .i64 2):=by rw[blk_cell m3];rfl
  have n2:((W.alloc ZvO).alloc (vO ⟨8,3,0,⟨#[]⟩,0⟩)).cell? ⟨w.heap.size+1+1,2,none⟩=some (.int .i64 b):=by rw[blk_cell m3];rfl
  have n3:((W.alloc ZvO).alloc (vO ⟨8,3,0,⟨#[]⟩,0⟩)).cell? ⟨w.heap.size+1+1,3,none⟩=some (.int .i64 cc):=by rw[blk_cell m3];rfl
  have n4:((W.alloc ZvO).alloc (vO ⟨8,3,0,⟨#[]⟩,0⟩)).cell? ⟨w.heap.size+1+1,4,none⟩=some (.int .i64 d):=by rw[blk_cell m3];rfl
  have HM4:Hid (((W.alloc ZvO).alloc (vO ⟨8,3,0,⟨#[]⟩,0⟩)).heap[w.heap.size+1+1+1]?=some (.cells #[.nilIface] 65)):=m4
  have HBX:Hid (Below w.heap.size w ((W.alloc ZvO).alloc (vO ⟨8,3,0,⟨#[]⟩,0⟩)).drew):=(HB.out.trans (H2.out.mono HB.out.size)).drew
  clear m1 m2 m3 m4
  go_wp2_with fail
  refine (HQ'.out _ HBX.out).mono ?_
  rintro e w1 ⟨rfl,S,hS,hlt,hq⟩
  have HQ1:Hid (Q _ w1):=hq
  have m5:=hS.blk (show ((W.alloc ZvO).alloc (vO ⟨8,3,0,⟨#[]⟩,0⟩)).drew.heap[w.heap.size+1+1+1]?=_ from HM4.out) (fun h=>by have:=hlt _ h;omega)
  have c5:w1.cell? ⟨w.heap.size+1+1+1,0,none⟩=some .nilIface:=by rw[blk_cell m5];rfl
  have z5:=blk_frozen m5
  clear hS hlt hq q0 q1 n0 n1 n2 n3 n4 m5
  rcases hR with rfl | rfl
  ·go_wp2_with fail
   refine bodyPost_ret (v:=.nilIface) (by simp[results,Tryz.results111,go_sem,c5]) rfl ⟨rfl,_,w1,HBX.out,HQ1.out,w.heap.size+1+1+1,by omega,rfl⟩
  ·unfold ovI
   go_wp2_with fail
   refine bodyPost_ret (v:=.iface 487 (.pointer p)) (by simp[results,Tryz.results111,go_sem,c5]) rfl ⟨rfl,_,w1,HBX.out,HQ1.out,w.heap.size+1+1+1,by omega,rfl⟩
end Go.Proofs.YtkajknidfoelcaaGreatDoor.U
