import Derived.Test.YtjglgbepobmjhaaGreatDoorP21
set_option linter.unusedVariables false
set_option linter.unusedSimpArgs false
set_option maxRecDepth 20000
set_option maxHeartbeats 8000000
namespace Go.Proofs.YtjglgbepobmjhaaGreatDoor.T
open Go.RowKit M
attribute [local go_sem] run_store_float
theorem CallD.set_line (c : CallD) (z : Int) : c.arr.setIfInBounds 11 (.int .i64 z) = { c with line:=z }.arr:=by
 unfold CallD.arr; rw [List.setIfInBounds_toArray]; rfl
abbrev CtO (h l : Int) : Obj:=.cells #[.int .i64 4,.int .i64 h,.int .i64 l] 273
theorem tk_but {w w' : World} {S : List Nat} {gt gc gf : Nat} {ta ca : Array Value} {ut uc : TypeId} (h : TkAt w gt gc gf) (ht : w.heap[gt]? = some (.cells ta ut)) (hc : w.heap[gc]? = some (.cells ca uc)) (hb : ButL S w w') (n1 : gt ∉ S) (n2 : gc ∉ S) : TkAt w' gt gc gf:=by
 have ht':=hb.blk ht n1
 have hc':=hb.blk hc n2
 obtain ⟨⟨cap,h1,h2⟩,h3,h4⟩:=h
 refine ⟨⟨cap,?_,h2⟩,?_,?_⟩
 ·rw [blk_cell ht'] ; rw [blk_cell ht] at h1; exact h1
 ·rw [blk_cell ht'] ; rw [blk_cell ht] at h3; exact h3
 ·rw [blk_cell hc'] ; rw [blk_cell hc] at h4; exact h4
def hcD (c : CallD) (hd : Int) : CallD:={ c with line:=0,at':=hd,next:=hd }
set_option maxHeartbeats 4000000 in
theorem handle_go (gm gt gc gf gn gr : Nat) (hd : Int) (s : ByteArray) (m : MachD) (c : CallD) (ta ca : Array Value) (S : List Nat) (Q : World→World→Prop) (w : World) (hm : MachAt w gm m) (hrn : m.running = .pointer (some ⟨gt,0,none⟩)) (htk : TkAt w gt gc gf) (ht : w.heap[gt]? = some (.cells ta 145)) (hcr : w.heap[gc]? = some (.cells ca 146))
  (hc : CallAt w gf c) (hlow : Low c) (hp : c.proto = 0) (hn : w.heap[gn]? = some (CtO hd 0)) (hr : w.heap[gr]? = some (ThO s)) (s1 : gf ∉ S) (s2 : gn ∉ S) (s3 : gr ∉ S)
  (HQ : ∀ wk,ButL [gf] w wk→CallAt wk gf (hcD c hd)→Calls Tryz.prog 219 #[.pointer (some ⟨gm,0,none⟩),.agg #[.int .i64 5,.int .i64 0,.int .i64 0,.int .i64 0,.string ⟨#[55]⟩]] wk fun e w'=>e = .returned .nilIface∧ButL S wk w'∧Q wk w') :
  Calls Tryz.prog 208 #[.pointer (some ⟨gm,0,none⟩),.pointer (some ⟨gf,0,none⟩),.pointer (some ⟨gn,0,none⟩),.pointer (some ⟨gr,0,none⟩)] w fun e w'=>e = .returned .nilIface∧∃ wk w5,ButL [gf] w wk∧CallAt wk gf (hcD c hd)∧ButL S wk w5∧Q wk w5∧CallAt w' gf { hcD c hd with regs:=(c.regs.set 4 (sdV (intD 7))).set 5 (sdV (strD s)) }∧ButL [gf] w5 w':=by
 have k0 : w.cell? ⟨gn,0,none⟩ = some (.int .i64 4):=by rw [blk_cell hn]; rfl
 have HC : Hid (CallAt w gf c):=hc
 have HM : Hid (MachAt w gm m):=hm
 have HT : Hid (TkAt w gt gc gf):=htk
 have HN : Hid (w.heap[gn]? = some (CtO hd 0)):=hn
 have HR : Hid (w.heap[gr]? = some (ThO s)):=hr
 have HTa : Hid (w.heap[gt]? = some (.cells ta 145)):=ht
 have HCa : Hid (w.heap[gc]? = some (.cells ca 146)):=hcr
 have HQ' : Hid (∀ wk,ButL [gf] w wk→CallAt wk gf (hcD c hd)→Calls Tryz.prog 219 #[.pointer (some ⟨gm,0,none⟩),.agg #[.int .i64 5,.int .i64 0,.int .i64 0,.int .i64 0,.string ⟨#[55]⟩]] wk fun e w'=>e = .returned .nilIface∧ButL S wk w'∧Q wk w'):=HQ
 clear hc hn hr hm htk ht hcr HQ
 go_enter Tryz.func208,Tryz.ntmps208
 go_wp2_with fail
 refine (empty_any gn gf c _ k0 HC.out hlow).mono ?_
 rintro e w1 ⟨rfl,hc1,hb1⟩
 have hn1 : w1.heap[gn]? = some (CtO hd 0):=hb1.blk HN.out (by simp; exact ne_ty HN.out HC.out (by decide))
 have n0 : w1.cell? ⟨gn,0,none⟩ = some (.int .i64 4):=by rw [blk_cell hn1]; rfl
 have n1 : w1.cell? ⟨gn,1,none⟩ = some (.int .i64 hd):=by rw [blk_cell hn1]; rfl
 have n2 : w1.cell? ⟨gn,2,none⟩ = some (.int .i64 0):=by rw [blk_cell hn1]; rfl
 have c9 : w1.cell? ⟨gf,9,none⟩ = some (.int .i64 c.at'):=by rw [hc1.cell 9 (by omega)]; rfl
 have c10 : w1.cell? ⟨gf,10,none⟩ = some (.int .i64 c.next):=by rw [hc1.cell 10 (by omega)]; rfl
 have c11 : w1.cell? ⟨gf,11,none⟩ = some (.int .i64 c.line):=by rw [hc1.cell 11 (by omega)]; rfl
 have z:=blk_frozen hc1
 obtain ⟨W3,hW3⟩ : ∃ W3,((w1.setCell ⟨gf,11,none⟩ (.int .i64 0)).setCell ⟨gf,9,none⟩ (.int .i64 hd)).setCell ⟨gf,10,none⟩ (.int .i64 hd) = W3:=⟨_,rfl⟩
 have hc3 : CallAt W3 gf (hcD c hd):=by
  rw [← hW3]
  have h9:=blk_set (blk_set (blk_set hc1 11 (.int .i64 0)) 9 (.int .i64 hd)) 10 (.int .i64 hd)
  rw [CallD.set_line,CallD.set_at,CallD.set_next] at h9
  exact h9
 have hb3 : ButL [gf] w W3:=by rw [← hW3]; exact ((hb1.set (by simp) _ _).set (by simp) _ _).set (by simp) _ _
 have HC3 : Hid (CallAt W3 gf (hcD c hd)):=hc3
 have HB3 : Hid (ButL [gf] w W3):=hb3
 have HR3 : Hid (W3.heap[gr]? = some (ThO s)):=hb3.blk HR.out (by simp; exact ne_ty HR.out HC.out (by decide))
 have HM3 : Hid (MachAt W3 gm m):=HM.out.but hb3 (by simp; exact ne_ty HM.out HC.out (by decide))
 have HT3 : Hid (TkAt W3 gt gc gf):=tk_but HT.out HTa.out HCa.out hb3 (by simp; exact ne_ty HTa.out HC.out (by decide)) (by simp; exact ne_ty HCa.out HC.out (by decide))
 clear hc1 hb1 k0 hn1 hc3 hb3
 go_wp2_with fail
 go_region
 clear hW3 n0 n1 n2 c9 c10 c11 z
 have r0 : W3.cell? ⟨gr,0,none⟩ = some (.int .i64 2):=by rw [blk_cell HR3.out]; rfl
 have r1 : W3.cell? ⟨gr,1,none⟩ = some (.int .i64 7):=by rw [blk_cell HR3.out]; rfl
 have r2 : W3.cell? ⟨gr,2,none⟩ = some (.float .f64 0):=by rw [blk_cell HR3.out]; rfl
 have r3 : W3.cell? ⟨gr,3,none⟩ = some (.string ⟨#[]⟩):=by rw [blk_cell HR3.out]; rfl
 have r4 : W3.cell? ⟨gr,4,none⟩ = some (.int .i64 0):=by rw [blk_cell HR3.out]; rfl
 have c11 : W3.cell? ⟨gf,11,none⟩ = some (.int .i64 0):=by rw [HC3.out.cell 11 (by omega)]; rfl
 go_wp2_with fail
 go_cut [9] from 36 to 47 (fun s9 wx=>∃ wk,s9 = .nilIface∧Hid (ButL [gf] w wk∧CallAt wk gf (hcD c hd)∧ButL S wk wx∧Q wk wx))
 case first =>
  go_region_with (first | (go_at_call 52; refine (told7 _ _).mono ?_; rintro e w4 ⟨rfl,hx4⟩; have HX4 : Hid (Below W3.heap.size W3 w4):=⟨hx4.os,hx4.tape,hx4.output,hx4.size,hx4.block⟩; have d11 : w4.cell? ⟨gf,11,none⟩ = some (.int .i64 0):=cell_later HX4.out c11; clear hx4) | (go_at_call 159; refine (tell_any gm gt gc gf 5 m (hcD c hd) .nilIface (fun w'=>∃ n,ButL S (w4.drewN n) w'∧Q (w4.drewN n) w') w4 (HM3.out.later HX4.out) hrn (HT3.out.later HX4.out) (HC3.out.later HX4.out) hp (fun n=>(HQ'.out (w4.drewN n) ((HB3.out.thenB HX4.out).drewN n) ((HC3.out.later HX4.out).drewN n)).mono (fun e w' h=>⟨h.1,n,h.2⟩))).mono ?_; rintro e w5 ⟨rfl,n5,hq⟩; have HQ5 : Hid (ButL S (w4.drewN n5) w5∧Q (w4.drewN n5) w5):=hq; clear hq))
  all_goals
   skip
   go_wp2_with fail
   go_meet
   exact ⟨w4.drewN n5,rfl,(HB3.out.thenB HX4.out).drewN n5,(HC3.out.later HX4.out).drewN n5,HQ5.out⟩
 case rest =>
  obtain ⟨wk,rfl,HK⟩:=hcut
  clear r0 r1 r2 r3 r4 c11
  obtain ⟨w5v,rfl⟩ : ∃ w5v,w5v = wc:=⟨_,rfl⟩
  have hb5:=HK.out.2.2.1
  have hr5 : w5v.heap[gr]? = some (ThO s):=hb5.blk (HK.out.1.blk HR.out (by simp; exact ne_ty HR.out HC.out (by decide))) s3
  have hn5 : w5v.heap[gn]? = some (CtO hd 0):=hb5.blk (HK.out.1.blk HN.out (by simp; exact ne_ty HN.out HC.out (by decide))) s2
  have hc5 : CallAt w5v gf (hcD c hd):=HK.out.2.1.but hb5 s1
  have HR5 : Hid (w5v.heap[gr]? = some (ThO s)):=hr5
  have HN5 : Hid (w5v.heap[gn]? = some (CtO hd 0)):=hn5
  have HC5 : Hid (CallAt w5v gf (hcD c hd)):=hc5
  have r0 : w5v.cell? ⟨gr,0,none⟩ = some (.int .i64 2):=by rw [blk_cell hr5]; rfl
  have r1 : w5v.cell? ⟨gr,1,none⟩ = some (.int .i64 7):=by rw [blk_cell hr5]; rfl
  have r2 : w5v.cell? ⟨gr,2,none⟩ = some (.float .f64 0):=by rw [blk_cell hr5]; rfl
  have r3 : w5v.cell? ⟨gr,3,none⟩ = some (.string ⟨#[]⟩):=by rw [blk_cell hr5]; rfl
  have r4 : w5v.cell? ⟨gr,4,none⟩ = some (.int .i64 0):=by rw [blk_cell hr5]; rfl
  have n0 : w5v.cell? ⟨gn,0,none⟩ = some (.int .i64 4):=by rw [blk_cell hn5]; rfl
  clear hb5 hr5 hn5 hc5
  go_wp2_with fail
  go_cut [] from 51 to 61 (fun wx=>Hid (CallAt wx gf { hcD c hd with regs:=c.regs.set 4 (sdV (intD 7)) }∧ButL [gf] w5v wx))
  case first =>
   go_region_with (go_at_call 126; refine (put_any gf 4 (intD 7) (hcD c hd) w5v.drew HC5.out hlow.1 (by omega)).mono ?_; rintro e w6 ⟨rfl,hc6,hb6⟩; have HC6 : Hid (CallAt w6 gf { hcD c hd with regs:=c.regs.set 4 (sdV (intD 7)) }):=hc6; have HB6 : Hid (ButL [gf] w5v w6):=hb6.undrew; clear hc6 hb6)
   all_goals
    go_wp2_with fail
    go_meet
    exact ⟨HC6.out,HB6.out⟩
  case rest =>
   have HC6 : Hid (CallAt wc gf { hcD c hd with regs:=c.regs.set 4 (sdV (intD 7)) }):=hcut.out.1
   have HB6 : Hid (ButL [gf] w5v wc):=hcut.out.2
   have hr6 : wc.heap[gr]? = some (ThO s):=HB6.out.blk HR5.out (by simp; exact ne_ty HR.out HC.out (by decide))
   have hn6 : wc.heap[gn]? = some (CtO hd 0):=HB6.out.blk HN5.out (by simp; exact ne_ty HN.out HC.out (by decide))
   have q5 : wc.cell? ⟨gr,5,none⟩ = some (.string s):=by rw [blk_cell hr6]; rfl
   have q0 : wc.cell? ⟨gn,0,none⟩ = some (.int .i64 4):=by rw [blk_cell hn6]; rfl
   clear hr6 hn6 hcut r0 r1 r2 r3 r4 n0
   go_wp2_with fail
   go_region_with (first | (go_at_call 129; refine (strValue_any s _).mono ?_; rintro e w7 ⟨rfl,hx7⟩; have HX7 : Hid (Below wc.heap.size wc w7):=und1' hx7; have t0 : w7.cell? ⟨gn,0,none⟩ = some (.int .i64 4):=cell_later HX7.out q0; clear hx7) | (go_at_call 126; refine (put_any gf 5 (strD s) { hcD c hd with regs:=c.regs.set 4 (sdV (intD 7)) } w7 (HC6.out.later HX7.out) (by show (c.regs.set 4 _).length = 250; rw [List.length_set]; exact hlow.1) (by omega)).mono ?_; rintro e w8 ⟨rfl,hc8,hb8⟩; have HC8 : Hid (CallAt w8 gf { hcD c hd with regs:=(c.regs.set 4 (sdV (intD 7))).set 5 (sdV (strD s)) }):=hc8; have HB8 : Hid (ButL [gf] w7 w8):=hb8; clear hc8 hb8))
   all_goals
    go_wp2_with fail
    go_ret
    exact ⟨rfl,wk,w5v,HK.out.1,HK.out.2.1,HK.out.2.2.1,HK.out.2.2.2,HC8.out,(HB6.out.thenB HX7.out).trans HB8.out⟩
end Go.Proofs.YtjglgbepobmjhaaGreatDoor.T
