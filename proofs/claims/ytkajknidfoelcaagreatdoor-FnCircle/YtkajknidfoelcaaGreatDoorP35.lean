import Derived.Test.YtkajknidfoelcaaGreatDoorP34
import Derived.Test.YtkajknidfoelcaaGreatDoorP31
set_option linter.unusedVariables false
set_option linter.unusedSimpArgs false
set_option maxRecDepth 20000
set_option maxHeartbeats 8000000
namespace Go.Proofs.YtkajknidfoelcaaGreatDoor.U
open Go.RowKit M T
attribute [local go_sem] run_store_float
theorem OvV.but {S:List Nat} {w w':World} {p:Option Addr} (h:OvV w p) (hb:ButL S w w') (hn:2∉S):OvV w' p:=by
 have h0:w.cell? ⟨2,0,none⟩=some (ovI p):=h
 show w'.cell? ⟨2,0,none⟩=some (ovI p)
 have hl:=World.block_lt_of_cell? _ _ h0
 rw[←h0]
 simp only[World.cell?,hb.block 2 hl hn]
theorem callt_over (gm:Nat) (m:MachD) (p:Option Addr) (a:Value) (w:World) (h:MachAt w gm m) (ho:OvV w p) (he:m.rticks=m.ticks) :
  Calls Tryz.prog 177 #[.pointer (some ⟨gm,0,none⟩),txA,.slice none 0 0] w fun e w'=>e=.returned (.tuple #[.slice none 0 0,ovI p])∧Below w.heap.size w w':=by
 obtain⟨W,hW⟩:∃W,w.alloc (vO ⟨8,3,0,⟨#[]⟩,0⟩)=W:=⟨_,rfl⟩
 have hb:Below w.heap.size w W:=by rw[←hW];exact bw1 _ _
 have HM:Hid (MachAt W gm m):=h.later hb
 have HO:Hid (OvV W p):=ho.later hb
 have HB:Hid (Below w.heap.size w W):=hb
 clear h hb ho
 go_enter Tryz.func177,Tryz.ntmps177
 go_wp2_with fail
 go_loopw [2,8] (fun a i wr=>a=.slice none 0 0∧i=.int .i64 0∧wr=W) (fun _ _ _=>0)
 case atStart=>exact⟨rfl,rfl,rfl⟩
 case round =>
  obtain⟨rfl,rfl,rfl⟩:=hrel
  clear hW
  go_wp2_with fail
  refine (tick_over gm m p _ HM.out HO.out he).mono ?_
  rintro e w1 ⟨rfl,hx⟩
  have HX:Hid (Below w.heap.size w w1):=HB.out.trans (hx.mono HB.out.size)
  clear hx
  unfold ovI
  go_wp2_with fail
  exact bodyPost_ret (v:=.tuple #[.slice none 0 0,.iface 487 (.pointer p)]) (by simp[results,Tryz.results177,go_sem]) rfl ⟨rfl,HX.out⟩
theorem doCall_go (gm gf:Nat) (n:ID) (m:MachD) (c:CallD) (w:World) (hm:MachAt w gm m) (hc:CallAt w gf c) (hr:c.regs.length=250) (ha:n.a=4) (hb:n.b=1) (hcc:n.c=-5) (h1:c.regs[1]?=some (sdV ⟨8,3,0,⟨#[]⟩,0⟩)) (h4:c.regs[4]?=some (sdL (.slice none 0 0))) (he:m.rticks<m.ticks) (hz:0≤m.rticks) (ht:m.ticks≤100000) :
  Calls Tryz.prog 99 #[.pointer (some ⟨gm,0,none⟩),.pointer (some ⟨gf,0,none⟩),insV n] w fun e w'=>e=.returned .nilIface∧∃g,MachAt w' gm { m with rticks:=m.rticks+1 }∧CallAt w' gf { c with regs:=(c.regs.set 4 sd0).set 4 (sdL (.slice (some ⟨g,0,none⟩) 1 1)) }∧ButL [gm,gf] w w':=by
 obtain⟨op,a,b,cc,d⟩:=n
 dsimp only[insV]at ha hb hcc ⊢
 subst ha hb hcc
 obtain⟨W,hW⟩:∃W,w.alloc (InO ⟨op,4,1,-5,d⟩)=W:=⟨_,rfl⟩
 have hbw:Below w.heap.size w W:=by rw[←hW];exact bw1 _ _
 have bn:W.heap[w.heap.size]?=some (InO ⟨op,4,1,-5,d⟩):=by rw[←hW];exact blk_new _ _
 have hne:w.heap.size≠gf∧w.heap.size≠gm:=⟨by have:=blk_lt hc;omega,by have:=blk_lt hm;omega⟩
 have hmf:gm≠gf:=ne_ty hm hc (by decide)
 have HM:Hid (MachAt W gm m):=hm.later hbw
 have HC:Hid (CallAt W gf c):=hc.later hbw
 have HB:Hid (Below w.heap.size w W):=hbw
 have HI:Hid (W.heap[w.heap.size]?=some (InO ⟨op,4,1,-5,d⟩)):=bn
 have d1:W.cell? ⟨w.heap.size,1,none⟩=some (.int .i64 4):=by rw[blk_cell bn];rfl
 have d2:W.cell? ⟨w.heap.size,2,none⟩=some (.int .i64 1):=by rw[blk_cell bn];rfl
 have d3:W.cell? ⟨w.heap.size,3,none⟩=some (.int .i64 (-5)):=by rw[blk_cell bn];rfl
 clear hm hc hbw bn
 go_enter Tryz.func99,Tryz.ntmps99
 go_wp2_with fail
 clear hW
 go_region_with (first | (go_at_call 162;refine (value_pos gf 1 1 ⟨8,3,0,⟨#[]⟩,0⟩ none none 0 0 c _ (CallAt.drew HC.out) hr (by omega) h1).mono ?_;rintro e w1 ⟨rfl,hx⟩;replace hx:=und1' hx;have HX1:Hid (Below W.heap.size W w1):=hx;have HC1:Hid (CallAt w1 gf c):=HC.out.later hx;have f3:w1.cell? ⟨w.heap.size,3,none⟩=some (.int .i64 (-5)):=cell_later hx d3;clear hx) | (go_at_call 170;refine (list_neg gf 4 (-5) 3 vd0 none none 0 0 c _ HC1.out hr (by omega) (by omega) (by omega) h4).mono ?_;rintro e w2 ⟨rfl,hc2,hb2⟩;have HC2:Hid (CallAt w2 gf { c with regs:=c.regs.set 4 sd0 }):=hc2;have HB2:Hid (ButL [gf] W w2):=(ButL.of_below HX1.out).trans hb2;have HM2:Hid (MachAt w2 gm m):=HM.out.but HB2.out (by simp;exact hmf);clear hc2 hb2) | (go_at_call 177;refine (callt_go gm m _ HM2.out he hz ht).mono ?_;rintro e w3 ⟨g,rfl,hg,hge,hm3,hb3⟩;have HC3:Hid (CallAt w3 gf { c with regs:=c.regs.set 4 sd0 }):=CallAt.but HC2.out hb3 (by simp;exact fun e=>hmf e.symm);have HB3:Hid (ButL [gm,gf] w w3):=((ButL.of_below HB.out).trans (HB2.out.mono (fun q hq=>.inl (by simp at hq;subst hq;simp)))).trans (hb3.mono (fun q hq=>.inl (by simp at hq;subst hq;simp)));have HM3:Hid (MachAt w3 gm { m with rticks:=m.rticks+1 }):=hm3;have p1:w3.cell? ⟨w.heap.size,1,none⟩=some (.int .i64 4):=(by rw[blk_cell (hb3.blk (HB2.out.blk HI.out (by simp;exact hne.1)) (by simp;exact hne.2))];rfl);clear hg hge hm3 hb3))
 all_goals
  clear d1 d2 d3 f3
  go_wp2_with fail
  refine (putList_any gf 4 1 1 (some ⟨g,0,none⟩) { c with regs:=c.regs.set 4 sd0 } _ HC3.out (by show (c.regs.set 4 sd0).length=250;rw[List.length_set];exact hr) (by omega)).mono ?_
  rintro e w4 ⟨rfl,hc4,hb4⟩
  have HC4:Hid (CallAt w4 gf { c with regs:=(c.regs.set 4 sd0).set 4 (sdL (.slice (some ⟨g,0,none⟩) 1 1)) }):=hc4
  have HM4:Hid (MachAt w4 gm { m with rticks:=m.rticks+1 }):=MachAt.but HM3.out hb4 (by simp;exact hmf)
  have HB4:Hid (ButL [gm,gf] w w4):=HB3.out.trans (hb4.mono (fun q hq=>.inl (by simp at hq;subst hq;simp)))
  clear hc4 hb4
  go_wp2_with fail
  go_ret
  exact⟨rfl,g,HM4.out,HC4.out,HB4.out⟩
end Go.Proofs.YtkajknidfoelcaaGreatDoor.U
namespace Go.Proofs.YtkajknidfoelcaaGreatDoor.U
open Go.RowKit M T
attribute [local go_sem] run_store_float
theorem doCall_over (p:Option Addr) (gm gf:Nat) (n:ID) (m:MachD) (c:CallD) (w:World) (hm:MachAt w gm m) (hc:CallAt w gf c) (hr:c.regs.length=250) (ha:n.a=4) (hb:n.b=1) (hcc:n.c=-5) (h1:c.regs[1]?=some (sdV ⟨8,3,0,⟨#[]⟩,0⟩)) (h4:c.regs[4]?=some (sdL (.slice none 0 0))) (he:m.rticks=m.ticks) (ho:OvV w p) (hog:2≠gf) :
  Calls Tryz.prog 99 #[.pointer (some ⟨gm,0,none⟩),.pointer (some ⟨gf,0,none⟩),insV n] w fun e w'=>e=.returned (ovI p)∧CallAt w' gf { c with regs:=c.regs.set 4 sd0 }∧ButL [gf] w w':=by
 obtain⟨op,a,b,cc,d⟩:=n
 dsimp only[insV]at ha hb hcc ⊢
 subst ha hb hcc
 obtain⟨W,hW⟩:∃W,w.alloc (InO ⟨op,4,1,-5,d⟩)=W:=⟨_,rfl⟩
 have hbw:Below w.heap.size w W:=by rw[←hW];exact bw1 _ _
 have bn:W.heap[w.heap.size]?=some (InO ⟨op,4,1,-5,d⟩):=by rw[←hW];exact blk_new _ _
 have hmf:gm≠gf:=ne_ty hm hc (by decide)
 have HM:Hid (MachAt W gm m):=hm.later hbw
 have HC:Hid (CallAt W gf c):=hc.later hbw
 have HB:Hid (Below w.heap.size w W):=hbw
 have HO:Hid (OvV W p):=ho.later hbw
 have d1:W.cell? ⟨w.heap.size,1,none⟩=some (.int .i64 4):=by rw[blk_cell bn];rfl
 have d2:W.cell? ⟨w.heap.size,2,none⟩=some (.int .i64 1):=by rw[blk_cell bn];rfl
 have d3:W.cell? ⟨w.heap.size,3,none⟩=some (.int .i64 (-5)):=by rw[blk_cell bn];rfl
 clear hm hc hbw bn ho
 go_enter Tryz.func99,Tryz.ntmps99
 go_wp2_with fail
 clear hW
 go_region_with (first | (go_at_call 162;refine (value_pos gf 1 1 ⟨8,3,0,⟨#[]⟩,0⟩ none none 0 0 c _ (CallAt.drew HC.out) hr (by omega) h1).mono ?_;rintro e w1 ⟨rfl,hx⟩;replace hx:=und1' hx;have HX1:Hid (Below W.heap.size W w1):=hx;have HC1:Hid (CallAt w1 gf c):=HC.out.later hx;have f3:w1.cell? ⟨w.heap.size,3,none⟩=some (.int .i64 (-5)):=cell_later hx d3;clear hx) | (go_at_call 170;refine (list_neg gf 4 (-5) 3 vd0 none none 0 0 c _ HC1.out hr (by omega) (by omega) (by omega) h4).mono ?_;rintro e w2 ⟨rfl,hc2,hb2⟩;have HC2:Hid (CallAt w2 gf { c with regs:=c.regs.set 4 sd0 }):=hc2;have HB2:Hid (ButL [gf] W w2):=(ButL.of_below HX1.out).trans hb2;have HM2:Hid (MachAt w2 gm m):=HM.out.but HB2.out (by simp;exact hmf);have HO2:Hid (OvV w2 p):=OvV.but HO.out HB2.out (by simp;exact hog);clear hc2 hb2) | (go_at_call 177;refine (callt_over gm m p .nilIface _ HM2.out HO2.out he).mono ?_;rintro e w3 ⟨rfl,hx3⟩;have HC3:Hid (CallAt w3 gf { c with regs:=c.regs.set 4 sd0 }):=CallAt.later HC2.out hx3;have HB3:Hid (ButL [gf] w w3):=((ButL.of_below HB.out).trans HB2.out).thenB hx3;clear hx3;unfold ovI))
 all_goals
  clear d1 d2 d3 f3
  go_wp2_with fail
  go_ret
  exact⟨rfl,HC3.out,HB3.out⟩
theorem doLine_over (p:Option Addr) (gm gf:Nat) (n:ID) (m:MachD) (w:World) (hm:MachAt w gm m) (he:m.rticks=m.ticks) (ho:OvV w p) :
  Calls Tryz.prog 80 #[.pointer (some ⟨gm,0,none⟩),.pointer (some ⟨gf,0,none⟩),insV n] w fun e w'=>e=.returned (ovI p)∧Below w.heap.size w w':=by
 obtain⟨op,a,b,cc,d⟩:=n
 dsimp only[insV]
 have HB:Hid _:=bw1 w (InO ⟨op,a,b,cc,d⟩)
 have HC:Hid (MachAt (w.alloc (InO ⟨op,a,b,cc,d⟩)) gm m):=hm.later HB.out
 have HO:Hid (OvV (w.alloc (InO ⟨op,a,b,cc,d⟩)) p):=ho.later HB.out
 clear hm ho
 go_enter Tryz.func80,Tryz.ntmps80
 go_wp2_with fail
 refine (tick_over gm m p _ HC.out HO.out he).mono ?_
 rintro e w1 ⟨rfl,hb1⟩
 have HB1:Hid (Below w.heap.size w w1):=HB.out.trans (hb1.mono (by simp))
 clear hb1
 unfold ovI
 go_wp2_with fail
 go_ret
 exact⟨rfl,HB1.out⟩
theorem doLine_go (gm gt gc gf:Nat) (n:ID) (m:MachD) (c:CallD) (ta ca:Array Value) (Q:World→World→Prop) (w:World) (hm:MachAt w gm m) (hrn:m.running=.pointer (some ⟨gt,0,none⟩)) (htk:TkAt w gt gc gf) (ht:w.heap[gt]?=some (.cells ta 149)) (hcr:w.heap[gc]?=some (.cells ca 150))
  (hc:CallAt w gf c) (hp:c.proto=0) (he:m.rticks<m.ticks) (h0:0≤m.rticks) (h1:m.ticks≤100000)
  (HQ:∀wk,ButL [gm,gf] w wk→MachAt wk gm { m with rticks:=m.rticks+1 }→CallAt wk gf { c with line:=n.a }→Calls Tryz.prog 221 #[.pointer (some ⟨gm,0,none⟩),.agg #[.int .i64 1,.int .i64 0,.int .i64 0,.int .i64 n.a,.string ⟨#[]⟩]] wk fun e w'=>e=.returned .nilIface∧Q wk w') :
  Calls Tryz.prog 80 #[.pointer (some ⟨gm,0,none⟩),.pointer (some ⟨gf,0,none⟩),insV n] w fun e w'=>e=.returned .nilIface∧∃wk,ButL [gm,gf] w wk∧MachAt wk gm { m with rticks:=m.rticks+1 }∧CallAt wk gf { c with line:=n.a }∧Q wk w':=by
 obtain⟨op,a,b,cc,d⟩:=n
 dsimp only[insV]at HQ ⊢
 have hmf:gm≠gf:=ne_ty hm hc (by decide)
 obtain⟨W,hW⟩:∃W,w.alloc (InO ⟨op,a,b,cc,d⟩)=W:=⟨_,rfl⟩
 have hbw:Below w.heap.size w W:=by rw[←hW];exact bw1 _ _
 have bn:W.heap[w.heap.size]?=some (InO ⟨op,a,b,cc,d⟩):=by rw[←hW];exact blk_new _ _
 have hne:w.heap.size≠gm:=by have:=blk_lt hm;omega
 have HB:Hid (Below w.heap.size w W):=hbw
 have HM:Hid (MachAt W gm m):=hm.later hbw
 have HI:Hid (W.heap[w.heap.size]?=some (InO ⟨op,a,b,cc,d⟩)):=bn
 have HC:Hid (CallAt w gf c):=hc
 have HT:Hid (TkAt w gt gc gf):=htk
 have HTa:Hid (w.heap[gt]?=some (.cells ta 149)):=ht
 have HCa:Hid (w.heap[gc]?=some (.cells ca 150)):=hcr
 have HMm:Hid (MachAt w gm m):=hm
 have HQ':Hid (∀wk,ButL [gm,gf] w wk→MachAt wk gm { m with rticks:=m.rticks+1 }→CallAt wk gf { c with line:=a }→Calls Tryz.prog 221 #[.pointer (some ⟨gm,0,none⟩),.agg #[.int .i64 1,.int .i64 0,.int .i64 0,.int .i64 a,.string ⟨#[]⟩]] wk fun e w'=>e=.returned .nilIface∧Q wk w'):=HQ
 clear hm hc htk ht hcr HQ hbw bn
 go_enter Tryz.func80,Tryz.ntmps80
 go_wp2_with fail
 clear hW
 refine (tick_go gm m _ HM.out he h0 h1).mono ?_
 rintro e w1 ⟨rfl,hm1,hb1⟩
 have d1:w1.cell? ⟨w.heap.size,1,none⟩=some (.int .i64 a):=by rw[blk_cell (hb1.blk HI.out (by simp;exact hne))];rfl
 have hb1':ButL [gm,gf] w w1:=(ButL.of_below HB.out).trans (hb1.mono (fun q hq=>.inl (by simp at hq;subst hq;simp)))
 have hc1:CallAt w1 gf c:=(HC.out.later HB.out).but hb1 (by simp;exact fun e=>hmf e.symm)
 have c11:w1.cell? ⟨gf,11,none⟩=some (.int .i64 c.line):=by rw[hc1.cell 11 (by omega)];rfl
 have z:=blk_frozen hc1
 obtain⟨W3,hW3⟩:∃W3,w1.setCell ⟨gf,11,none⟩ (.int .i64 a)=W3:=⟨_,rfl⟩
 have hc3:CallAt W3 gf { c with line:=a }:=by
  rw[←hW3]
  have h9:=blk_set hc1 11 (.int .i64 a)
  rw[T.CallD.set_line]at h9
  exact h9
 have hb3:ButL [gm,gf] w W3:=by rw[←hW3];exact hb1'.set (by simp) _ _
 have hm3:MachAt W3 gm { m with rticks:=m.rticks+1 }:=by rw[←hW3];exact blk_other hm1 (fun e=>hmf e.symm) _ _
 have HC3:Hid (CallAt W3 gf { c with line:=a }):=hc3
 have HB3:Hid (ButL [gm,gf] w W3):=hb3
 have HM3:Hid (MachAt W3 gm { m with rticks:=m.rticks+1 }):=hm3
 have HT3:Hid (TkAt W3 gt gc gf):=tk_but HT.out HTa.out HCa.out hb3 (by simp;exact⟨ne_ty HTa.out HMm.out (by decide),ne_ty HTa.out HC.out (by decide)⟩) (by simp;exact⟨ne_ty HCa.out HMm.out (by decide),ne_ty HCa.out HC.out (by decide)⟩)
 have e11:W3.cell? ⟨gf,11,none⟩=some (.int .i64 a):=by rw[hc3.cell 11 (by omega)];rfl
 clear hm1 hb1 hb1' hc1 hc3 hb3 hm3
 go_wp2_with fail
 refine (tell_g gm gt gc gf ⟨1,a,⟨#[]⟩⟩ { m with rticks:=m.rticks+1 } { c with line:=a } .nilIface (fun w'=>∃n,Q (W3.drewN n) w') W3 HM3.out hrn HT3.out HC3.out hp (fun n=>(HQ'.out (W3.drewN n) (HB3.out.drewN n) HM3.out HC3.out).mono (fun e w' h=>⟨h.1,n,h.2⟩))).mono ?_
 rintro e w5 ⟨rfl,n5,hq⟩
 have HQ5:Hid (Q (W3.drewN n5) w5):=hq
 clear hq
 go_wp2_with fail
 go_ret
 exact⟨rfl,W3.drewN n5,HB3.out.drewN n5,HM3.out,HC3.out,HQ5.out⟩
end Go.Proofs.YtkajknidfoelcaaGreatDoor.U
