import Derived.Test.YtjglgbepobmjhaaGreatDoorP19
import Derived.Deep.CutRange
set_option linter.unusedVariables false
set_option linter.unusedSimpArgs false
set_option maxRecDepth 20000
set_option maxHeartbeats 8000000
namespace Go.Proofs.YtjglgbepobmjhaaGreatDoor.T
open Go.RowKit M
attribute [local go_sem] run_store_float
abbrev V7O : Obj:=.cells #[.int .i64 2,.int .i64 7,.float .f64 0,.string ⟨#[]⟩,.int .i64 0] 70
abbrev V7A : Value:=.agg #[.int .i64 2,.int .i64 7,.float .f64 0,.string ⟨#[]⟩,.int .i64 0]
abbrev ThO (s : ByteArray) : Obj:=.cells #[.int .i64 2,.int .i64 7,.float .f64 0,.string ⟨#[]⟩,.int .i64 0,.string s] 159
theorem v7_cells {W : World} {b : Nat} (h : W.heap[b]? = some V7O) : W.cell? ⟨b,0,none⟩ = some (.int .i64 2)∧W.cell? ⟨b,1,none⟩ = some (.int .i64 7)∧W.cell? ⟨b,2,none⟩ = some (.float .f64 0)∧W.cell? ⟨b,3,none⟩ = some (.string ⟨#[]⟩)∧W.cell? ⟨b,4,none⟩ = some (.int .i64 0):=by
 refine ⟨?_,?_,?_,?_,?_⟩ <;> (rw [blk_cell h]; rfl)
structure ThR (w : World) (gm gt gc gf bp op capP : Nat) (m : MachD) (c : CallD) : Prop where
 mac : MachAt w gm m
 run : m.running = .pointer (some ⟨gt,0,none⟩)
 tk : TkAt w gt gc gf
 cal : CallAt w gf c
 pro : c.proto = 0
 lin : c.line = 0
 prs : m.protos = .slice (some ⟨bp,op,none⟩) 1 capP
 nam : w.cell? ⟨bp,op,none⟩ = some (.string ⟨#[109,97,105,110]⟩)
theorem ThR.later {w w' : World} {gm gt gc gf bp op capP : Nat} {m : MachD} {c : CallD} (h : ThR w gm gt gc gf bp op capP m c) (hb : Below w.heap.size w w') : ThR w' gm gt gc gf bp op capP m c :=
 ⟨h.mac.later hb,h.run,h.tk.later hb,h.cal.later hb,h.pro,h.lin,h.prs,cell_later hb h.nam⟩
theorem und1' {w w' : World} (h : Below w.drew.heap.size w.drew w') : Below w.heap.size w w':=⟨h.os,h.tape,h.output,h.size,h.block⟩
theorem bdN {B : Nat} {w w' : World} (n : Nat) (h : Below B w w') : Below B w (w'.drewN n):=⟨h.os,h.tape,h.output,h.size,h.block⟩
set_option maxHeartbeats 4000000 in
theorem throw_any (gm gt gc gf bp op capP : Nat) (m : MachD) (c : CallD) (Q : World→World→Prop) (w : World) (h : ThR w gm gt gc gf bp op capP m c)
  (HQ : ∀ wk,Below w.heap.size w wk→Calls Tryz.prog 219 #[.pointer (some ⟨gm,0,none⟩),.agg #[.int .i64 4,.int .i64 0,.int .i64 0,.int .i64 0,.string ⟨#[55]⟩]] wk fun e w'=>e = .returned .nilIface∧Q wk w') :
  Calls Tryz.prog 176 #[.pointer (some ⟨gm,0,none⟩),V7A] w fun e w'=>∃ gr s wk,e = .returned (.iface 142 (.pointer (some ⟨gr,0,none⟩)))∧w.heap.size ≤ gr∧wk.heap[gr]? = some (ThO s)∧Below w.heap.size w wk∧Q wk w':=by
 obtain ⟨W,hW⟩ : ∃ W,w.alloc V7O = W:=⟨_,rfl⟩
 have hb : Below w.heap.size w W:=by rw [← hW]; exact bw1 _ _
 have bn : W.heap[w.heap.size]? = some V7O:=by rw [← hW]; exact blk_new _ _
 have HN : Hid (W.heap[w.heap.size]? = some V7O):=bn
 have HB : Hid (Below w.heap.size w W):=hb
 have HT : Hid (ThR W gm gt gc gf bp op capP m c):=h.later hb
 have HQ' : Hid (∀ wk,Below w.heap.size w wk→Calls Tryz.prog 219 #[.pointer (some ⟨gm,0,none⟩),.agg #[.int .i64 4,.int .i64 0,.int .i64 0,.int .i64 0,.string ⟨#[55]⟩]] wk fun e w'=>e = .returned .nilIface∧Q wk w'):=HQ
 obtain ⟨d0,d1,d2,d3,d4⟩:=v7_cells bn
 clear h hb bn HQ
 go_enter Tryz.func176,Tryz.ntmps176
 go_wp2_with fail
 clear hW
 go_cut [5] from 7 to 11 (fun s5 wx=>∃ gr s,s5 = .pointer (some ⟨gr,0,none⟩)∧W.heap.size ≤ gr∧Hid (wx.heap[gr]? = some (ThO s))∧Hid (Below W.heap.size W wx))
 case first =>
  go_region_with (go_at_call 232; refine (trace_any gm gt gc gf bp op capP m c W.drew HT.out.mac HT.out.run (HT.out.tk.drewN 1) HT.out.cal HT.out.pro HT.out.lin HT.out.prs HT.out.nam).mono ?_; rintro e w1 ⟨⟨s,rfl⟩,hx⟩; replace hx:=und1' hx; obtain ⟨f0,f1,f2,f3,f4⟩:=v7_cells (blk_later hx HN.out); have HX : Hid (Below W.heap.size W w1):=hx; clear hx)
  all_goals
   go_wp2_with fail
   go_meet
   exact ⟨w1.heap.size,s,rfl,HX.out.size,blk_new _ _,HX.out.trans ((bw1 _ _).mono HX.out.size)⟩
 case rest =>
  obtain ⟨gr,s,rfl,hgr,HG,HX⟩:=hcut
  have HT2 : Hid (ThR wc gm gt gc gf bp op capP m c):=HT.out.later HX.out
  have HN2 : Hid (wc.heap[w.heap.size]? = some V7O):=blk_later HX.out HN.out
  obtain ⟨f0,f1,f2,f3,f4⟩:=v7_cells HN2.out
  have c75 : wc.cell? ⟨gm,75,none⟩ = some (.pointer (some ⟨gt,0,none⟩)):=by rw [HT2.out.mac.cell,← HT2.out.run]; rfl
  clear d0 d1 d2 d3 d4
  go_wp2_with fail
  go_region_with (first | (go_at_call 191; refine (line_any gt gc gf c wc.drew (HT2.out.tk.drewN 1) HT2.out.cal).mono ?_; rintro e w3 ⟨rfl,n3,rfl⟩; obtain ⟨h0,h1,h2,h3,h4⟩:=v7_cells (W:=wc.drew.drewN n3) HN2.out) | (go_at_call 52; refine (told7 _ _).mono ?_; rintro e w4 ⟨rfl,hx4⟩; have HX4 : Hid (Below wc.heap.size wc w4):=⟨hx4.os,hx4.tape,hx4.output,hx4.size,hx4.block⟩; have HT4 : Hid (ThR w4 gm gt gc gf bp op capP m c):=HT2.out.later HX4.out; clear hx4; rw [HT2.out.lin]) | (go_at_call 159; refine (tell_any gm gt gc gf 4 m c .nilIface (fun w'=>∃ n,Q (w4.drewN n) w') w4 HT4.out.mac HT4.out.run HT4.out.tk HT4.out.cal HT4.out.pro (fun n=>(HQ'.out (w4.drewN n) (bdN n (HB.out.trans ((HX.out.trans (HX4.out.mono HX.out.size)).mono HB.out.size)))).mono (fun e w' h=>⟨h.1,n,h.2⟩))).mono ?_; rintro e w5 ⟨rfl,n5,hq⟩; have HQ5 : Hid (Q (w4.drewN n5) w5):=hq; clear hq))
  all_goals
   go_wp2_with fail
   go_ret
   exact ⟨gr,s,w4.drewN n5,rfl,by have:=HB.out.size; omega,blk_later (bdN n5 HX4.out) HG.out,bdN n5 (HB.out.trans ((HX.out.trans (HX4.out.mono HX.out.size)).mono HB.out.size)),HQ5.out⟩
set_option maxHeartbeats 4000000 in
theorem throw_ov (p : Option Addr) (gm gt gc gf bp op capP : Nat) (m : MachD) (c : CallD) (Q : World→World→Prop) (w : World) (h : ThR w gm gt gc gf bp op capP m c)
  (HQ : ∀ wk,Below w.heap.size w wk→Calls Tryz.prog 219 #[.pointer (some ⟨gm,0,none⟩),.agg #[.int .i64 4,.int .i64 0,.int .i64 0,.int .i64 0,.string ⟨#[55]⟩]] wk fun e w'=>e = .returned (ovI p)∧Q wk w') :
  Calls Tryz.prog 176 #[.pointer (some ⟨gm,0,none⟩),V7A] w fun e w'=>∃ wk,e = .returned (ovI p)∧Below w.heap.size w wk∧Q wk w':=by
 obtain ⟨W,hW⟩ : ∃ W,w.alloc V7O = W:=⟨_,rfl⟩
 have hb : Below w.heap.size w W:=by rw [← hW]; exact bw1 _ _
 have bn : W.heap[w.heap.size]? = some V7O:=by rw [← hW]; exact blk_new _ _
 have HN : Hid (W.heap[w.heap.size]? = some V7O):=bn
 have HB : Hid (Below w.heap.size w W):=hb
 have HT : Hid (ThR W gm gt gc gf bp op capP m c):=h.later hb
 have HQ' : Hid (∀ wk,Below w.heap.size w wk→Calls Tryz.prog 219 #[.pointer (some ⟨gm,0,none⟩),.agg #[.int .i64 4,.int .i64 0,.int .i64 0,.int .i64 0,.string ⟨#[55]⟩]] wk fun e w'=>e = .returned (ovI p)∧Q wk w'):=HQ
 obtain ⟨d0,d1,d2,d3,d4⟩:=v7_cells bn
 clear h hb bn HQ
 go_enter Tryz.func176,Tryz.ntmps176
 go_wp2_with fail
 clear hW
 go_cut [5] from 7 to 11 (fun s5 wx=>∃ gr s,s5 = .pointer (some ⟨gr,0,none⟩)∧W.heap.size ≤ gr∧Hid (wx.heap[gr]? = some (ThO s))∧Hid (Below W.heap.size W wx))
 case first =>
  go_region_with (go_at_call 232; refine (trace_any gm gt gc gf bp op capP m c W.drew HT.out.mac HT.out.run (HT.out.tk.drewN 1) HT.out.cal HT.out.pro HT.out.lin HT.out.prs HT.out.nam).mono ?_; rintro e w1 ⟨⟨s,rfl⟩,hx⟩; replace hx:=und1' hx; obtain ⟨f0,f1,f2,f3,f4⟩:=v7_cells (blk_later hx HN.out); have HX : Hid (Below W.heap.size W w1):=hx; clear hx)
  all_goals
   go_wp2_with fail
   go_meet
   exact ⟨w1.heap.size,s,rfl,HX.out.size,blk_new _ _,HX.out.trans ((bw1 _ _).mono HX.out.size)⟩
 case rest =>
  obtain ⟨gr,s,rfl,hgr,HG,HX⟩:=hcut
  have HT2 : Hid (ThR wc gm gt gc gf bp op capP m c):=HT.out.later HX.out
  have HN2 : Hid (wc.heap[w.heap.size]? = some V7O):=blk_later HX.out HN.out
  obtain ⟨f0,f1,f2,f3,f4⟩:=v7_cells HN2.out
  have c75 : wc.cell? ⟨gm,75,none⟩ = some (.pointer (some ⟨gt,0,none⟩)):=by rw [HT2.out.mac.cell,← HT2.out.run]; rfl
  clear d0 d1 d2 d3 d4
  go_wp2_with fail
  go_region_with (first | (go_at_call 191; refine (line_any gt gc gf c wc.drew (HT2.out.tk.drewN 1) HT2.out.cal).mono ?_; rintro e w3 ⟨rfl,n3,rfl⟩; obtain ⟨h0,h1,h2,h3,h4⟩:=v7_cells (W:=wc.drew.drewN n3) HN2.out) | (go_at_call 52; refine (told7 _ _).mono ?_; rintro e w4 ⟨rfl,hx4⟩; have HX4 : Hid (Below wc.heap.size wc w4):=⟨hx4.os,hx4.tape,hx4.output,hx4.size,hx4.block⟩; have HT4 : Hid (ThR w4 gm gt gc gf bp op capP m c):=HT2.out.later HX4.out; clear hx4; rw [HT2.out.lin]) | (go_at_call 159; refine (tell_any gm gt gc gf 4 m c (ovI p) (fun w'=>∃ n,Q (w4.drewN n) w') w4 HT4.out.mac HT4.out.run HT4.out.tk HT4.out.cal HT4.out.pro (fun n=>(HQ'.out (w4.drewN n) (bdN n (HB.out.trans ((HX.out.trans (HX4.out.mono HX.out.size)).mono HB.out.size)))).mono (fun e w' h=>⟨h.1,n,h.2⟩))).mono ?_; rintro e w5 ⟨rfl,n5,hq⟩; have HQ5 : Hid (Q (w4.drewN n5) w5):=hq; clear hq))
  all_goals
   unfold ovI
   go_wp2_with fail
   go_ret
   exact ⟨w4.drewN n5,rfl,bdN n5 (HB.out.trans ((HX.out.trans (HX4.out.mono HX.out.size)).mono HB.out.size)),HQ5.out⟩
end Go.Proofs.YtjglgbepobmjhaaGreatDoor.T
