import Derived.Test.YtjglgbepobmjhaaGreatDoorP35
import Derived.Deep.CutRange
import Derived.Test.YtjglgbepobmjhaaGreatDoorP34
set_option linter.unusedVariables false
set_option linter.unusedSimpArgs false
set_option maxRecDepth 20000
set_option maxHeartbeats 8000000
namespace Go.Proofs.YtjglgbepobmjhaaGreatDoor.T
open Go.RowKit M
attribute [local go_sem] run_store_float
abbrev V7O:Obj:=.cells #[.int .i64 2,.int .i64 7,.float .f64 0,.string ⟨#[]⟩,.int .i64 0] 70
abbrev V7A:Value:=.agg #[.int .i64 2,.int .i64 7,.float .f64 0,.string ⟨#[]⟩,.int .i64 0]
abbrev ThO (s:ByteArray):Obj:=.cells #[.int .i64 2,.int .i64 7,.float .f64 0,.string ⟨#[]⟩,.int .i64 0,.string s] 159
theorem v7_cells {W:World} {b:Nat} (h:W.heap[b]?=some V7O):W.cell? ⟨b,0,none⟩=some (.int .i64 2)∧W.cell? ⟨b,1,none⟩=some (.int .i64 7)∧W.cell? ⟨b,2,none⟩=some (.float .f64 0)∧W.cell? ⟨b,3,none⟩=some (.string ⟨#[]⟩)∧W.cell? ⟨b,4,none⟩=some (.int .i64 0):=by
 refine⟨?_,?_,?_,?_,?_⟩<;>(rw[blk_cell h];rfl)
structure ThR (w:World) (gm gt gc gf bp op capP:Nat) (m:MachD) (c:CallD):Prop where
 mac:MachAt w gm m
 run:m.running=.pointer (some ⟨gt,0,none⟩)
 tk:TkAt w gt gc gf
 cal:CallAt w gf c
 pro:c.proto=0
 lin:c.line=0
 prs:m.protos=.slice (some ⟨bp,op,none⟩) 1 capP
 nam:w.cell? ⟨bp,op,none⟩=some (.string ⟨#[109,97,105,110]⟩)
theorem ThR.later {w w':World} {gm gt gc gf bp op capP:Nat} {m:MachD} {c:CallD} (h:ThR w gm gt gc gf bp op capP m c) (hb:Below w.heap.size w w'):ThR w' gm gt gc gf bp op capP m c :=
 ⟨h.mac.later hb,h.run,h.tk.later hb,h.cal.later hb,h.pro,h.lin,h.prs,cell_later hb h.nam⟩
theorem und1' {w w':World} (h:Below w.drew.heap.size w.drew w'):Below w.heap.size w w':=⟨h.os,h.tape,h.output,h.size,h.block⟩
theorem bdN {B:Nat} {w w':World} (n:Nat) (h:Below B w w'):Below B w (w'.drewN n):=⟨h.os,h.tape,h.output,h.size,h.block⟩
theorem throw_any (gm gt gc gf bp op capP:Nat) (m:MachD) (c:CallD) (Q:World→World→Prop) (w:World) (h:ThR w gm gt gc gf bp op capP m c)
  (HQ:∀wk,Below w.heap.size w wk→Calls Tryz.prog 219 #[.pointer (some ⟨gm,0,none⟩),.agg #[.int .i64 4,.int .i64 0,.int .i64 0,.int .i64 0,.string ⟨#[55]⟩]] wk fun e w'=>e=.returned .nilIface∧Q wk w') :
  Calls Tryz.prog 176 #[.pointer (some ⟨gm,0,none⟩),V7A] w fun e w'=>∃gr s wk,e=.returned (.iface 142 (.pointer (some ⟨gr,0,none⟩)))∧w.heap.size≤gr∧wk.heap[gr]?=some (ThO s)∧Below w.heap.size w wk∧Q wk w':=by
 obtain⟨W,hW⟩:∃W,w.alloc V7O=W:=⟨_,rfl⟩
 have hb:Below w.heap.size w W:=by rw[←hW];exact bw1 _ _
 have bn:W.heap[w.heap.size]?=some V7O:=by rw[←hW];exact blk_new _ _
 have HN:Hid (W.heap[w.heap.size]?=some V7O):=bn
 have HB:Hid (Below w.heap.size w W):=hb
 have HT:Hid (ThR W gm gt gc gf bp op capP m c):=h.later hb
 have HQ':Hid (∀wk,Below w.heap.size w wk→Calls Tryz.prog 219 #[.pointer (some ⟨gm,0,none⟩),.agg #[.int .i64 4,.int .i64 0,.int .i64 0,.int .i64 0,.string ⟨#[55]⟩]] wk fun e w'=>e=.returned .nilIface∧Q wk w'):=HQ
 obtain⟨d0,d1,d2,d3,d4⟩:=v7_cells bn
 clear h hb bn HQ
 go_enter Tryz.func176,Tryz.ntmps176
 go_wp2_with fail
 clear hW
 go_cut [5] from 7 to 11 (fun s5 wx=>∃gr s,s5=.pointer (some ⟨gr,0,none⟩)∧W.heap.size≤gr∧Hid (wx.heap[gr]?=some (ThO s))∧Hid (Below W.heap.size W wx))
 case first =>
  go_region_with (go_at_call 232;refine (trace_any gm gt gc gf bp op capP m c W.drew HT.out.mac HT.out.run (HT.out.tk.drewN 1) HT.out.cal HT.out.pro HT.out.lin HT.out.prs HT.out.nam).mono ?_;rintro e w1 ⟨⟨s,rfl⟩,hx⟩;replace hx:=und1' hx;obtain⟨f0,f1,f2,f3,f4⟩:=v7_cells (blk_later hx HN.out);have HX:Hid (Below W.heap.size W w1):=hx;clear hx)
  all_goals
   go_wp2_with fail
   go_meet
   exact⟨w1.heap.size,s,rfl,HX.out.size,blk_new _ _,HX.out.trans ((bw1 _ _).mono HX.out.size)⟩
 case rest =>
  obtain⟨gr,s,rfl,hgr,HG,HX⟩:=hcut
  have HT2:Hid (ThR wc gm gt gc gf bp op capP m c):=HT.out.later HX.out
  have HN2:Hid (wc.heap[w.heap.size]?=some V7O):=blk_later HX.out HN.out
  obtain⟨f0,f1,f2,f3,f4⟩:=v7_cells HN2.out
  have c75:wc.cell? ⟨gm,75,none⟩=some (.pointer (some ⟨gt,0,none⟩)):=by rw[HT2.out.mac.cell,←HT2.out.run];rfl
  clear d0 d1 d2 d3 d4
  go_wp2_with fail
  go_region_with (first | (go_at_call 191;refine (line_any gt gc gf c wc.drew (HT2.out.tk.drewN 1) HT2.out.cal).mono ?_;rintro e w3 ⟨rfl,n3,rfl⟩;obtain⟨h0,h1,h2,h3,h4⟩:=v7_cells (W:=wc.drew.drewN n3) HN2.out) | (go_at_call 52;refine (told7 _ _).mono ?_;rintro e w4 ⟨rfl,hx4⟩;have HX4:Hid (Below wc.heap.size wc w4):=⟨hx4.os,hx4.tape,hx4.output,hx4.size,hx4.block⟩;have HT4:Hid (ThR w4 gm gt gc gf bp op capP m c):=HT2.out.later HX4.out;clear hx4;rw[HT2.out.lin]) | (go_at_call 159;refine (tell_any gm gt gc gf 4 m c .nilIface (fun w'=>∃n,Q (w4.drewN n) w') w4 HT4.out.mac HT4.out.run HT4.out.tk HT4.out.cal HT4.out.pro (fun n=>(HQ'.out (w4.drewN n) (bdN n (HB.out.trans ((HX.out.trans (HX4.out.mono HX.out.size)).mono HB.out.size)))).mono (fun e w' h=>⟨h.1,n,h.2⟩))).mono ?_;rintro e w5 ⟨rfl,n5,hq⟩;have HQ5:Hid (Q (w4.drewN n5) w5):=hq;clear hq))
  all_goals
   go_wp2_with fail
   go_ret
   exact⟨gr,s,w4.drewN n5,rfl,by have:=HB.out.size;omega,blk_later (bdN n5 HX4.out) HG.out,bdN n5 (HB.out.trans ((HX.out.trans (HX4.out.mono HX.out.size)).mono HB.out.size)),HQ5.out⟩
theorem throw_ov (p:Option Addr) (gm gt gc gf bp op capP:Nat) (m:MachD) (c:CallD) (Q:World→World→Prop) (w:World) (h:ThR w gm gt gc gf bp op capP m c)
  (HQ:∀wk,Below w.heap.size w wk→Calls Tryz.prog 219 #[.pointer (some ⟨gm,0,none⟩),.agg #[.int .i64 4,.int .i64 0,.int .i64 0,.int .i64 0,.string ⟨#[55]⟩]] wk fun e w'=>e=.returned (ovI p)∧Q wk w') :
  Calls Tryz.prog 176 #[.pointer (some ⟨gm,0,none⟩),V7A] w fun e w'=>∃wk,e=.returned (ovI p)∧Below w.heap.size w wk∧Q wk w':=by
 obtain⟨W,hW⟩:∃W,w.alloc V7O=W:=⟨_,rfl⟩
 have hb:Below w.heap.size w W:=by rw[←hW];exact bw1 _ _
 have bn:W.heap[w.heap.size]?=some V7O:=by rw[←hW];exact blk_new _ _
 have HN:Hid (W.heap[w.heap.size]?=some V7O):=bn
 have HB:Hid (Below w.heap.size w W):=hb
 have HT:Hid (ThR W gm gt gc gf bp op capP m c):=h.later hb
 have HQ':Hid (∀wk,Below w.heap.size w wk→Calls Tryz.prog 219 #[.pointer (some ⟨gm,0,none⟩),.agg #[.int .i64 4,.int .i64 0,.int .i64 0,.int .i64 0,.string ⟨#[55]⟩]] wk fun e w'=>e=.returned (ovI p)∧Q wk w'):=HQ
 obtain⟨d0,d1,d2,d3,d4⟩:=v7_cells bn
 clear h hb bn HQ
 go_enter Tryz.func176,Tryz.ntmps176
 go_wp2_with fail
 clear hW
 go_cut [5] from 7 to 11 (fun s5 wx=>∃gr s,s5=.pointer (some ⟨gr,0,none⟩)∧W.heap.size≤gr∧Hid (wx.heap[gr]?=some (ThO s))∧Hid (Below W.heap.size W wx))
 case first =>
  go_region_with (go_at_call 232;refine (trace_any gm gt gc gf bp op capP m c W.drew HT.out.mac HT.out.run (HT.out.tk.drewN 1) HT.out.cal HT.out.pro HT.out.lin HT.out.prs HT.out.nam).mono ?_;rintro e w1 ⟨⟨s,rfl⟩,hx⟩;replace hx:=und1' hx;obtain⟨f0,f1,f2,f3,f4⟩:=v7_cells (blk_later hx HN.out);have HX:Hid (Below W.heap.size W w1):=hx;clear hx)
  all_goals
   go_wp2_with fail
   go_meet
   exact⟨w1.heap.size,s,rfl,HX.out.size,blk_new _ _,HX.out.trans ((bw1 _ _).mono HX.out.size)⟩
 case rest =>
  obtain⟨gr,s,rfl,hgr,HG,HX⟩:=hcut
  have HT2:Hid (ThR wc gm gt gc gf bp op capP m c):=HT.out.later HX.out
  have HN2:Hid (wc.heap[w.heap.size]?=some V7O):=blk_later HX.out HN.out
  obtain⟨f0,f1,f2,f3,f4⟩:=v7_cells HN2.out
  have c75:wc.cell? ⟨gm,75,none⟩=some (.pointer (some ⟨gt,0,none⟩)):=by rw[HT2.out.mac.cell,←HT2.out.run];rfl
  clear d0 d1 d2 d3 d4
  go_wp2_with fail
  go_region_with (first | (go_at_call 191;refine (line_any gt gc gf c wc.drew (HT2.out.tk.drewN 1) HT2.out.cal).mono ?_;rintro e w3 ⟨rfl,n3,rfl⟩;obtain⟨h0,h1,h2,h3,h4⟩:=v7_cells (W:=wc.drew.drewN n3) HN2.out) | (go_at_call 52;refine (told7 _ _).mono ?_;rintro e w4 ⟨rfl,hx4⟩;have HX4:Hid (Below wc.heap.size wc w4):=⟨hx4.os,hx4.tape,hx4.output,hx4.size,hx4.block⟩;have HT4:Hid (ThR w4 gm gt gc gf bp op capP m c):=HT2.out.later HX4.out;clear hx4;rw[HT2.out.lin]) | (go_at_call 159;refine (tell_any gm gt gc gf 4 m c (ovI p) (fun w'=>∃n,Q (w4.drewN n) w') w4 HT4.out.mac HT4.out.run HT4.out.tk HT4.out.cal HT4.out.pro (fun n=>(HQ'.out (w4.drewN n) (bdN n (HB.out.trans ((HX.out.trans (HX4.out.mono HX.out.size)).mono HB.out.size)))).mono (fun e w' h=>⟨h.1,n,h.2⟩))).mono ?_;rintro e w5 ⟨rfl,n5,hq⟩;have HQ5:Hid (Q (w4.drewN n5) w5):=hq;clear hq))
  all_goals
   unfold ovI
   go_wp2_with fail
   go_ret
   exact⟨w4.drewN n5,rfl,bdN n5 (HB.out.trans ((HX.out.trans (HX4.out.mono HX.out.size)).mono HB.out.size)),HQ5.out⟩
end Go.Proofs.YtjglgbepobmjhaaGreatDoor.T
namespace Go.Proofs.YtjglgbepobmjhaaGreatDoor.T
open Go.RowKit M
attribute [local go_sem] run_store_float
theorem run_fldS (h0:Int) (v:VD) (pb la:Option Addr) (ln lc:Nat) (w:World):(Instr.field 207 (.agg #[.int .i64 h0,.int .i64 v.k,.int .i64 v.n,.float .f64 v.f,.string v.s,.int .i64 v.r,.pointer pb,.slice la ln lc]) 1).run Tryz.prog w=.ok (.agg #[.int .i64 v.k,.int .i64 v.n,.float .f64 v.f,.string v.s,.int .i64 v.r]) w:=by kernel_rfl
theorem operand_pos (g i:Nat) (h0:Int) (v:VD) (pb la:Option Addr) (ln lc:Nat) (c:CallD) (w:World) (h:CallAt w g c) (hr:c.regs.length=250) (hi:i<250) (hs:c.regs[i]?=some ⟨h0,v,.pointer pb,.slice la ln lc⟩) :
  Calls Tryz.prog 162 #[.pointer (some ⟨g,0,none⟩),.int .i64 (i:Int)] w fun e w'=>e=.returned (.agg #[.int .i64 h0,.int .i64 v.k,.int .i64 v.n,.float .f64 v.f,.string v.s,.int .i64 v.r,.pointer pb,.slice la ln lc])∧Below w.heap.size w w':=by
 have hx0:(0:Int)≤(i:Int):=by omega
 have hx1:(i:Int)<250:=by omega
 obtain⟨W,hW⟩:∃W,w.alloc (.cells #[.int .i64 0,.int .i64 0,.int .i64 0,.float .f64 0,.string ⟨#[]⟩,.int .i64 0,.pointer none,.slice none 0 0] 207)=W:=⟨_,rfl⟩
 have hb:Below w.heap.size w W:=by rw[←hW];exact bw1 _ _
 have bn:W.heap[w.heap.size]?=some (.cells #[.int .i64 0,.int .i64 0,.int .i64 0,.float .f64 0,.string ⟨#[]⟩,.int .i64 0,.pointer none,.slice none 0 0] 207):=by rw[←hW];exact blk_new _ _
 have h':=h.later hb
 have c0:W.cell? ⟨g,14+i*8,none⟩=some (.int .i64 h0):=by have:=h'.reg hs (j:=0) rfl;simpa using this
 have c1:W.cell? ⟨g,14+i*8+1,none⟩=some (.int .i64 v.k):=by have:=h'.reg hs (j:=1) rfl;rwa [←Nat.add_assoc]at this
 have c2:W.cell? ⟨g,14+i*8+2,none⟩=some (.int .i64 v.n):=by have:=h'.reg hs (j:=2) rfl;rwa [←Nat.add_assoc]at this
 have c3:W.cell? ⟨g,14+i*8+3,none⟩=some (.float .f64 v.f):=by have:=h'.reg hs (j:=3) rfl;rwa [←Nat.add_assoc]at this
 have c4:W.cell? ⟨g,14+i*8+4,none⟩=some (.string v.s):=by have:=h'.reg hs (j:=4) rfl;rwa [←Nat.add_assoc]at this
 have c5:W.cell? ⟨g,14+i*8+5,none⟩=some (.int .i64 v.r):=by have:=h'.reg hs (j:=5) rfl;rwa [←Nat.add_assoc]at this
 have c6:W.cell? ⟨g,14+i*8+6,none⟩=some (.pointer pb):=by have:=h'.reg hs (j:=6) rfl;rwa [←Nat.add_assoc]at this
 have c7:W.cell? ⟨g,14+i*8+7,none⟩=some (.slice la ln lc):=by have:=h'.reg hs (j:=7) rfl;rwa [←Nat.add_assoc]at this
 have d0:W.cell? ⟨w.heap.size,0,none⟩=some (.int .i64 0):=by rw[blk_cell bn];rfl
 have d1:W.cell? ⟨w.heap.size,1,none⟩=some (.int .i64 0):=by rw[blk_cell bn];rfl
 have d2:W.cell? ⟨w.heap.size,2,none⟩=some (.int .i64 0):=by rw[blk_cell bn];rfl
 have d3:W.cell? ⟨w.heap.size,3,none⟩=some (.float .f64 0):=by rw[blk_cell bn];rfl
 have d4:W.cell? ⟨w.heap.size,4,none⟩=some (.string ⟨#[]⟩):=by rw[blk_cell bn];rfl
 have d5:W.cell? ⟨w.heap.size,5,none⟩=some (.int .i64 0):=by rw[blk_cell bn];rfl
 have d6:W.cell? ⟨w.heap.size,6,none⟩=some (.pointer none):=by rw[blk_cell bn];rfl
 have d7:W.cell? ⟨w.heap.size,7,none⟩=some (.slice none 0 0):=by rw[blk_cell bn];rfl
 have z:=blk_frozen bn
 have HB:Hid (Below w.heap.size w W):=hb
 clear h h' hb bn
 go_enter Tryz.func162,Tryz.ntmps162
 go_wp2_with fail
 refine bodyPost_ret (v:=.agg #[.int .i64 h0,.int .i64 v.k,.int .i64 v.n,.float .f64 v.f,.string v.s,.int .i64 v.r,.pointer pb,.slice la ln lc]) (by simp[results,Tryz.results162,go_sem,d0,d1,d2,d3,d4,d5,d6,d7]) rfl ⟨rfl,?_⟩
 exact ButL.nil (((((((((ButL.of_below HB.out).setn (Nat.le_refl _) _ _).setn (Nat.le_refl _) _ _).setn (Nat.le_refl _) _ _).setn (Nat.le_refl _) _ _).setn (Nat.le_refl _) _ _).setn (Nat.le_refl _) _ _).setn (Nat.le_refl _) _ _).setn (Nat.le_refl _) _ _)
abbrev ZvO:Obj:=.cells #[.int .i64 0,.int .i64 0,.float .f64 0,.string ⟨#[]⟩,.int .i64 0] 70
theorem value_pos (g i:Nat) (h0:Int) (v:VD) (pb la:Option Addr) (ln lc:Nat) (c:CallD) (w:World) (h:CallAt w g c) (hr:c.regs.length=250) (hi:i<250) (hs:c.regs[i]?=some ⟨h0,v,.pointer pb,.slice la ln lc⟩) :
  Calls Tryz.prog 160 #[.pointer (some ⟨g,0,none⟩),.int .i64 (i:Int)] w fun e w'=>e=.returned (.agg #[.int .i64 v.k,.int .i64 v.n,.float .f64 v.f,.string v.s,.int .i64 v.r])∧Below w.heap.size w w':=by
 have hF:=run_fldS h0 v pb la ln lc
 have HC:Hid (CallAt (w.alloc ZvO) g c):=h.later (bw1 _ _)
 clear h
 go_enter Tryz.func160,Tryz.ntmps160
 go_wp2_with fail
 refine (operand_pos g i h0 v pb la ln lc c _ HC.out hr hi hs).mono ?_
 rintro e w1 ⟨rfl,hx⟩
 have hr3:=blk_later hx (blk_new w ZvO)
 have r0:w1.cell? ⟨w.heap.size,0,none⟩=some (.int .i64 0):=by rw[blk_cell hr3];rfl
 have r1:w1.cell? ⟨w.heap.size,1,none⟩=some (.int .i64 0):=by rw[blk_cell hr3];rfl
 have r2:w1.cell? ⟨w.heap.size,2,none⟩=some (.float .f64 0):=by rw[blk_cell hr3];rfl
 have r3:w1.cell? ⟨w.heap.size,3,none⟩=some (.string ⟨#[]⟩):=by rw[blk_cell hr3];rfl
 have r4:w1.cell? ⟨w.heap.size,4,none⟩=some (.int .i64 0):=by rw[blk_cell hr3];rfl
 have z3:=blk_frozen hr3
 have HB:Hid (Below w.heap.size w w1):=(bw1 _ _).trans (hx.mono (by simp))
 clear hx hr3
 go_wp2_with fail
 refine bodyPost_ret (v:=.agg #[.int .i64 v.k,.int .i64 v.n,.float .f64 v.f,.string v.s,.int .i64 v.r]) (by simp[results,Tryz.results160,go_sem,r0,r1,r2,r3,r4]) rfl ⟨rfl,?_⟩
 exact ButL.nil (but5 (ButL.of_below HB.out) (Nat.le_refl _) _ _ _ _ _)
end Go.Proofs.YtjglgbepobmjhaaGreatDoor.T
namespace Go.Proofs.YtjglgbepobmjhaaGreatDoor.T
open Go.RowKit M
attribute [local go_sem] run_store_float
theorem step_clear_run {P:Program} {ops:Array Oper} {o:Oper} {a:Act} {w:World} {K:Act→World→Prop} {Q:Exit→Act→World→Prop} {E:Prop}
  (hg:o.guard=none) (s:Operand) (t:TypeId) (hop:o.op=Op.call { callee:=Callee.builtin Builtin.clear,args:=#[s],argTypes:=#[t] })
  (sv v':Value) (w':World) (hs:a.eval s=sv) (hrun:(Builtin.clear_ #[t] o.type #[sv]).run P w=.ok v' w') (hK:K (a.put o.dst v') w') :
  if Region.wanted o (yielded ops a.tmps)=true then Oper.wp P o a w K Q else E:=by
 have hw:Region.wanted o (yielded ops a.tmps)=true:=by simp[Region.wanted,hg]
 rw[if_pos hw]
 unfold Oper.wp
 simp[execOp,hop,resolve,invoke,builtin,hs,hrun,Result.andThen]
 exact hK
theorem blk_putl {g:Nat} {t:TypeId}:∀(vs:List Value) {w:World} {ar:Array Value} (o:Nat),w.heap[g]?=some (.cells ar t)→(w.setCells g o vs).heap[g]?=some (.cells (putl ar o vs) t)
 | [],_,_,_,h=>h
 | v :: vs,_,_,o,h=>blk_putl vs (o+1) (blk_set h o v)
theorem but_setCells {S:List Nat} {g:Nat} (hg:g∈S):∀(vs:List Value) {a w:World} (o:Nat),ButL S a w→ButL S a (w.setCells g o vs)
 | [],_,_,_,h=>h
 | v :: vs,_,_,o,h=>but_setCells hg vs (o+1) (h.set hg o v)
def zs4:List Value:=(List.replicate 246 sd0).flatMap SD.cells
theorem zs4_len:zs4.length=1968:=by
 unfold zs4
 rw[List.length_flatMap,List.map_replicate,List.sum_replicate_nat]
 rfl
def z8:Array Value:=#[.int .i64 0,.int .i64 0,.int .i64 0,.float .f64 0,.string ⟨#[]⟩,.int .i64 0,.pointer none,.slice none 0 0]
theorem z8_at:∀m,m<8→∃v,sd0.cells[m]?=some v∧z8[m]! = v
 | 0,_=>⟨_,rfl,rfl⟩
 | 1,_=>⟨_,rfl,rfl⟩
 | 2,_=>⟨_,rfl,rfl⟩
 | 3,_=>⟨_,rfl,rfl⟩
 | 4,_=>⟨_,rfl,rfl⟩
 | 5,_=>⟨_,rfl,rfl⟩
 | 6,_=>⟨_,rfl,rfl⟩
 | 7,_=>⟨_,rfl,rfl⟩
 | n+8,h=>absurd h (by omega)
theorem zeros4:(Builtin.zeroCells z8 246).toList=zs4:=by
 have hs:z8.size=8:=rfl
 apply List.ext_getElem?
 intro n
 by_cases hn:n<1968
 ·obtain⟨v,h1,h2⟩:=z8_at (n % 8) (Nat.mod_lt _ (by omega))
  have h3:=flat_at SD.cells 8 (List.replicate 246 sd0) (n / 8) (n % 8) sd0 v (fun y _=>sd_len y) (by rw[List.getElem?_replicate,if_pos (by omega)]) h1
  rw[show n / 8*8+n % 8=n by omega]at h3
  unfold zs4
  rw[h3]
  unfold Builtin.zeroCells
  rw[Array.getElem?_toList,Array.getElem?_map,hs,Array.getElem?_range,if_pos (by omega)]
  simp only[Option.map_some]
  rw[h2]
 ·have h1:zs4[n]?=none:=List.getElem?_eq_none (by rw[zs4_len];omega)
  have h2:(Builtin.zeroCells z8 246).toList[n]?=none:=by
   apply List.getElem?_eq_none
   unfold Builtin.zeroCells
   rw[Array.length_toList,Array.size_map,Array.size_range,hs]
   omega
  rw[h1,h2]
theorem zero_slot:∃z:Value,(∀w,(zeroValue 207).run Tryz.prog w=.ok z w)∧(Builtin.zeroCells z.cells 246).toList=zs4 :=
 ⟨.agg z8,fun w=>by kernel_rfl,zeros4⟩
theorem zs4_one:∀u∈zs4,u.oneCell'=true:=by
 intro u hu
 obtain⟨s,hs,hu⟩:=List.mem_flatMap.1 hu
 rw[List.eq_of_mem_replicate hs]at hu
 simp only[SD.cells,sd0,vd0,List.mem_cons,List.not_mem_nil,or_false]at hu
 rcases hu with rfl | rfl | rfl | rfl | rfl | rfl | rfl | rfl<;>rfl
def Low (c:CallD):Prop:=c.regs.length=250∧c.regs.drop 4=List.replicate 246 sd0
theorem Low.put {c:CallD} (h:Low c):putl c.arr 46 zs4=c.arr:=by
 obtain⟨h1,h2⟩:=h
 have e:c.arr=(c.hd++(c.regs.take 4).flatMap SD.cells++(zs4++[])).toArray:=by
  unfold CallD.arr
  congr 1
  rw[List.append_nil,List.append_assoc]
  congr 1
  have e1:c.regs=c.regs.take 4++List.replicate 246 sd0:=by rw[←h2,List.take_append_drop]
  conv=>lhs;rw[e1]
  rw[List.flatMap_append]
  rfl
 have hl:(c.hd++(c.regs.take 4).flatMap SD.cells).length=46:=by
  have h3:(c.regs.take 4).length=4:=by rw[List.length_take,h1];rfl
  rw[List.length_append,List.length_flatMap]
  match hq:c.regs.take 4,h3 with
  | [a,b,c',d],_=>simp[sd_len];rfl
 rw[e,putl_toArray]
 have:=setL_mid zs4 (c.hd++(c.regs.take 4).flatMap SD.cells) zs4 [] rfl
 rw[hl]at this
 rw[this]
theorem Low.size {c:CallD} (hl:Low c):c.arr.size=2014:=by
 unfold CallD.arr
 rw[List.size_toArray,List.length_append,List.length_flatMap]
 have e1:c.regs.map (fun a=>a.cells.length)=List.replicate 250 8:=by
  rw[←hl.1]
  apply List.ext_getElem?
  intro n
  rw[List.getElem?_map,List.getElem?_replicate]
  by_cases hn:n<c.regs.length
  ·rw[if_pos hn,List.getElem?_eq_getElem hn];rfl
  ·rw[if_neg hn,List.getElem?_eq_none (by omega)];rfl
 rw[e1,List.sum_replicate_nat]
 show 14+250*8=2014
 omega
theorem run_clear_n (w w':World) (g o n cp:Nat) (ty:TypeId) (z:Value) (zs:List Value) (hz:∀w,(zeroValue 207).run Tryz.prog w=.ok z w) (hzl:(Builtin.zeroCells z.cells (n+1)).toList=zs) (hst:(storeCells ⟨g,o,none⟩ zs).run Tryz.prog w=.ok () w') :
  (Builtin.clear_ #[401] ty #[.slice (some ⟨g,o,none⟩) (n+1) cp]).run Tryz.prog w=.ok (.tuple #[]) w':=by
 simp[Builtin.clear_,run_underlying Tryz.underlying401,hz,hzl,hst]
theorem run_clear4 (w:World) (g:Nat) (ty:TypeId) (c:CallD) (h:CallAt w g c) (hl:Low c):(Builtin.clear_ #[401] ty #[.slice (some ⟨g,46,none⟩) 246 246]).run Tryz.prog w=.ok (.tuple #[]) (w.setCells g 46 zs4):=by
 obtain⟨z,hz,hzl⟩:=zero_slot
 have hsz:=hl.size
 obtain⟨zs,hzs⟩:∃zs,zs4=zs:=⟨_,rfl⟩
 have hzn:zs.length=1968:=by rw[←hzs];exact zs4_len
 have hz1:∀u∈zs,u.oneCell'=true:=by rw[←hzs];exact zs4_one
 rw[hzs]at hzl ⊢
 have hst:=run_storeCells_cells (P:=Tryz.prog) g 46 zs 0 w (fun j hj=>by
   rw[hzn]at hj
   rw[blk_cell h,Array.getElem?_eq_getElem (by omega)];rfl) (fun j _=>blk_frozen h _) hz1
 simp only[Nat.add_zero]at hst
 exact run_clear_n w _ g 46 245 246 ty z zs hz hzl hst
theorem empty_any (gn gf:Nat) (c:CallD) (w:World) (hk:w.cell? ⟨gn,0,none⟩=some (.int .i64 4)) (h:CallAt w gf c) (hl:Low c) :
  Calls Tryz.prog 207 #[.pointer (some ⟨gn,0,none⟩),.pointer (some ⟨gf,0,none⟩)] w fun e w'=>e=.returned (.tuple #[])∧CallAt w' gf c∧ButL [gf] w w':=by
 have hr:=run_clear4 w.drew gf 0 c h hl
 have HE:Hid (CallAt (w.drew.setCells gf 46 zs4) gf c∧ButL [gf] w (w.drew.setCells gf 46 zs4)):=by
  refine⟨?_,but_setCells (by simp) _ _ (ButL.refl _ _).drew⟩
  have:=blk_putl zs4 (w:=w.drew) 46 h
  rw[hl.put]at this
  exact this
 obtain⟨W9,hW9⟩:∃W9,w.drew.setCells gf 46 zs4=W9:=⟨_,rfl⟩
 rw[hW9]at hr HE
 have HR:Hid _:=hr
 clear h hl hr hW9
 go_enter Tryz.func207,Tryz.ntmps207
 go_wp2_with fail
 go_region_law (refine step_clear_run rfl _ _ rfl _ _ _ rfl HR.out ?_)
 all_goals
  go_wp2_with fail
  exact bodyPost_end (v:=.tuple #[]) (by simp[results,Tryz.results207,go_sem]) rfl ⟨rfl,HE.out⟩
end Go.Proofs.YtjglgbepobmjhaaGreatDoor.T
namespace Go.Proofs.YtjglgbepobmjhaaGreatDoor.T
open Go.RowKit M
attribute [local go_sem] run_store_float
theorem doThrow_any (gm gt gc gf bp op capP:Nat) (m:MachD) (c:CallD) (n:ID) (Q:World→World→Prop) (w:World) (h:ThR w gm gt gc gf bp op capP m c) (hr:c.regs.length=250) (ha:n.a=0) (hs:c.regs[0]?=some (sdV (intD 7)))
  (HQ:∀wk,Below w.heap.size w wk→Calls Tryz.prog 219 #[.pointer (some ⟨gm,0,none⟩),.agg #[.int .i64 4,.int .i64 0,.int .i64 0,.int .i64 0,.string ⟨#[55]⟩]] wk fun e w'=>e=.returned .nilIface∧Q wk w') :
  Calls Tryz.prog 99 #[.pointer (some ⟨gm,0,none⟩),.pointer (some ⟨gf,0,none⟩),insV n] w fun e w'=>∃gr s wk,e=.returned (.iface 142 (.pointer (some ⟨gr,0,none⟩)))∧w.heap.size≤gr∧wk.heap[gr]?=some (ThO s)∧Below w.heap.size w wk∧Q wk w':=by
 obtain⟨o,a,b,cc,d⟩:=n
 dsimp only[insV]at ha ⊢
 subst ha
 have HB:Hid _:=bw1 w (InO ⟨o,0,b,cc,d⟩)
 have HT:Hid (ThR (w.alloc (InO ⟨o,0,b,cc,d⟩)) gm gt gc gf bp op capP m c):=h.later HB.out
 have HQ':Hid (∀wk,Below w.heap.size w wk→Calls Tryz.prog 219 #[.pointer (some ⟨gm,0,none⟩),.agg #[.int .i64 4,.int .i64 0,.int .i64 0,.int .i64 0,.string ⟨#[55]⟩]] wk fun e w'=>e=.returned .nilIface∧Q wk w'):=HQ
 clear h HQ
 go_enter Tryz.func99,Tryz.ntmps99
 go_wp2_with fail
 refine (value_pos gf 0 1 (intD 7) none none 0 0 c _ HT.out.cal hr (by omega) hs).mono ?_
 rintro e w1 ⟨rfl,hx⟩
 have HX:Hid (Below w.heap.size w w1):=HB.out.trans (hx.mono (by simp))
 have HT1:Hid (ThR w1 gm gt gc gf bp op capP m c):=HT.out.later hx
 clear hx
 go_wp2_with fail
 refine (throw_any gm gt gc gf bp op capP m c Q w1 HT1.out (fun wk hk=>HQ'.out wk (HX.out.trans (hk.mono HX.out.size)))).mono ?_
 rintro e w2 ⟨gr,s,wk,rfl,h1,h2,h3,h4⟩
 have HE:Hid (w.heap.size≤gr∧wk.heap[gr]?=some (ThO s)∧Below w.heap.size w wk∧Q wk w2):=⟨Nat.le_trans HX.out.size h1,h2,HX.out.trans (h3.mono HX.out.size),h4⟩
 clear h1 h2 h3 h4
 go_wp2_with fail
 go_ret
 exact⟨gr,s,wk,rfl,HE.out⟩
theorem doThrow_ov (p:Option Addr) (gm gt gc gf bp op capP:Nat) (m:MachD) (c:CallD) (n:ID) (Q:World→World→Prop) (w:World) (h:ThR w gm gt gc gf bp op capP m c) (hr:c.regs.length=250) (ha:n.a=0) (hs:c.regs[0]?=some (sdV (intD 7)))
  (HQ:∀wk,Below w.heap.size w wk→Calls Tryz.prog 219 #[.pointer (some ⟨gm,0,none⟩),.agg #[.int .i64 4,.int .i64 0,.int .i64 0,.int .i64 0,.string ⟨#[55]⟩]] wk fun e w'=>e=.returned (ovI p)∧Q wk w') :
  Calls Tryz.prog 99 #[.pointer (some ⟨gm,0,none⟩),.pointer (some ⟨gf,0,none⟩),insV n] w fun e w'=>∃wk,e=.returned (ovI p)∧Below w.heap.size w wk∧Q wk w':=by
 obtain⟨o,a,b,cc,d⟩:=n
 dsimp only[insV]at ha ⊢
 subst ha
 have HB:Hid _:=bw1 w (InO ⟨o,0,b,cc,d⟩)
 have HT:Hid (ThR (w.alloc (InO ⟨o,0,b,cc,d⟩)) gm gt gc gf bp op capP m c):=h.later HB.out
 have HQ':Hid (∀wk,Below w.heap.size w wk→Calls Tryz.prog 219 #[.pointer (some ⟨gm,0,none⟩),.agg #[.int .i64 4,.int .i64 0,.int .i64 0,.int .i64 0,.string ⟨#[55]⟩]] wk fun e w'=>e=.returned (ovI p)∧Q wk w'):=HQ
 clear h HQ
 go_enter Tryz.func99,Tryz.ntmps99
 go_wp2_with fail
 refine (value_pos gf 0 1 (intD 7) none none 0 0 c _ HT.out.cal hr (by omega) hs).mono ?_
 rintro e w1 ⟨rfl,hx⟩
 have HX:Hid (Below w.heap.size w w1):=HB.out.trans (hx.mono (by simp))
 have HT1:Hid (ThR w1 gm gt gc gf bp op capP m c):=HT.out.later hx
 clear hx
 go_wp2_with fail
 refine (throw_ov p gm gt gc gf bp op capP m c Q w1 HT1.out (fun wk hk=>HQ'.out wk (HX.out.trans (hk.mono HX.out.size)))).mono ?_
 rintro e w2 ⟨wk,rfl,h3,h4⟩
 have HE:Hid (Below w.heap.size w wk∧Q wk w2):=⟨HX.out.trans (h3.mono HX.out.size),h4⟩
 clear h3 h4
 go_wp2_with fail
 go_ret
 exact⟨wk,rfl,HE.out⟩
theorem gaveStr_any (s:ByteArray) (w:World):Calls Tryz.prog 205 #[.string s] w fun e w'=>e=.returned (.agg #[.int .i64 0,.int .i64 4,.int .i64 0,.float .f64 0,.string s,.int .i64 0])∧Below w.heap.size w w':=by
 go_enter Tryz.func205,Tryz.ntmps205
 go_wp2_with fail
 exact bodyPost_ret (v:=.agg #[.int .i64 0,.int .i64 4,.int .i64 0,.float .f64 0,.string s,.int .i64 0]) (by simp[results,Tryz.results205,go_sem]) rfl ⟨rfl,bw1 _ _⟩
def strD (s:ByteArray):VD:=⟨4,0,0,s,0⟩
theorem strValue_any (s:ByteArray) (w:World):Calls Tryz.prog 129 #[.string s] w fun e w'=>e=.returned (.agg #[.int .i64 4,.int .i64 0,.float .f64 0,.string s,.int .i64 0])∧Below w.heap.size w w':=by
 have hF:=run_fldV 0 4 0 0 s 0
 go_enter Tryz.func129,Tryz.ntmps129
 go_wp2_with fail
 refine (gaveStr_any s _).mono ?_
 rintro e w1 ⟨rfl,hx⟩
 have hr3:=blk_later hx (blk_new w ZvO)
 have r0:w1.cell? ⟨w.heap.size,0,none⟩=some (.int .i64 0):=by rw[blk_cell hr3];rfl
 have r1:w1.cell? ⟨w.heap.size,1,none⟩=some (.int .i64 0):=by rw[blk_cell hr3];rfl
 have r2:w1.cell? ⟨w.heap.size,2,none⟩=some (.float .f64 0):=by rw[blk_cell hr3];rfl
 have r3:w1.cell? ⟨w.heap.size,3,none⟩=some (.string ⟨#[]⟩):=by rw[blk_cell hr3];rfl
 have r4:w1.cell? ⟨w.heap.size,4,none⟩=some (.int .i64 0):=by rw[blk_cell hr3];rfl
 have z3:=blk_frozen hr3
 have HB:Hid (Below w.heap.size w w1):=(bw1 _ _).trans (hx.mono (by simp))
 clear hx hr3
 go_wp2_with fail
 refine bodyPost_ret (v:=.agg #[.int .i64 4,.int .i64 0,.float .f64 0,.string s,.int .i64 0]) (by simp[results,Tryz.results129,go_sem,r0,r1,r2,r3,r4]) rfl ⟨rfl,?_⟩
 exact ButL.nil (but5 (ButL.of_below HB.out) (Nat.le_refl _) _ _ _ _ _)
end Go.Proofs.YtjglgbepobmjhaaGreatDoor.T
