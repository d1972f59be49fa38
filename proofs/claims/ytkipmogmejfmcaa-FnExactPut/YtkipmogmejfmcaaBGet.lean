/-
  OWN WORK. The program's book: Get.
-/
import Derived.Test.YtkipmogmejfmcaaBLen
namespace Go.Proofs.Ytkipmogmejfmcaa
open Go.RowKit
attribute [local go_sem] run_store_float
set_option linter.unusedVariables false

theorem Book.at {w : World} {bk lb mb cap : Nat} {ds : List PD} {turns : Int} (h : Book w bk lb mb cap ds turns) : PAt w lb 0 ds := by
  obtain ⟨ar, h1, h2, h3⟩ := h.row
  exact cont_at rfl h1 h3

set_option maxRecDepth 20000 in
set_option maxHeartbeats 1000000 in
theorem bget_none (bk lb mb cap : Nat) (ps : List PD) (turns : Int) (q : VD) (w : World) (hB : Book w bk lb mb cap ps turns) (h0 : eidx q ps 0 < 0) :
    Calls Try.prog 85 #[.pointer (some ⟨bk, 0, none⟩), q.v] w fun e w' => e = .returned (VV 0 0 0 ⟨#[]⟩ 0) ∧ Below w.heap.size w w' := by
  have HB : Hid (Book w bk lb mb cap ps turns) := hB
  have h0' : decide (0 ≤ eidx q ps 0) = false := by simpa using h0
  clear hB
  go_enter Try.func85, Try.ntmps85
  go_wp2_with fail
  obtain ⟨b0, b1⟩ := heap2 w (VO q.k q.n q.f q.s q.r) (VO 0 0 0 ⟨#[]⟩ 0)
  obtain ⟨w1, hw⟩ : ∃ w1, w1 = (w.alloc (VO q.k q.n q.f q.s q.r)).alloc (VO 0 0 0 ⟨#[]⟩ 0) := ⟨_, rfl⟩
  rw [← hw] at b0 b1
  have hb : Below w.heap.size w w1 := by rw [hw]; exact bw2 _ _ _
  rw [← hw]; clear hw
  have d0 : w1.cell? ⟨w.heap.size, 0, none⟩ = some (.int .i64 q.k) := by rw [blk_cell b0]; rfl
  have d1 : w1.cell? ⟨w.heap.size, 1, none⟩ = some (.int .i64 q.n) := by rw [blk_cell b0]; rfl
  have d2 : w1.cell? ⟨w.heap.size, 2, none⟩ = some (.float .f64 q.f) := by rw [blk_cell b0]; rfl
  have d3 : w1.cell? ⟨w.heap.size, 3, none⟩ = some (.string q.s) := by rw [blk_cell b0]; rfl
  have d4 : w1.cell? ⟨w.heap.size, 4, none⟩ = some (.int .i64 q.r) := by rw [blk_cell b0]; rfl
  have e0 := lat_cell d0; have e1 := lat_cell d1; have e2 := lat_cell d2; have e3 := lat_cell d3; have e4 := lat_cell d4
  have HL : ∀ x : Lat w1, Hid (MapAt x.wd mb ps) := fun x => HB.out.map.later (hb.trans (x.below.mono hb.size))
  have HC1 : ∀ x : Lat w1, Hid (x.wd.cell? ⟨bk, 1, none⟩ = some (.map (some mb))) := fun x => lat_cell (cell_later hb (by rw [blk_cell HB.out.head]; rfl)) x
  have sl : Slot5 w1 (w.heap.size + 1) := ⟨_, _, _, _, _, _, b1⟩
  clear b0 b1
  haveI := lat_some w1
  refine wp_region_lat (by kernel_rfl) (by kernel_rfl) ?_
  repeat (go_big_quiet_step ((go_at_call 108; refine lat_calls (find_any q bk mb ps _ (HL _).out (HC1 _).out))))
  refine wpQuiet_nil ?_
  rintro _ ⟨nq, rfl⟩
  replace sl := Slot5.later nq.below sl
  replace hb := hb.trans (nq.below.mono hb.size)
  clear e0 e1 e2 e3 e4 d0 d1 d2 d3 d4 HL HC1
  obtain ⟨w2, hw⟩ : ∃ w2, w2 = nq.wd := ⟨_, rfl⟩
  rw [← hw] at sl hb ⊢; clear hw
  obtain ⟨v0, v1, v2, v3, v4, d0, d1, d2, d3, d4, z, hz⟩ := sl.cells
  go_wp2_with fail
  exact bodyPost_ret (v := VV 0 0 0 ⟨#[]⟩ 0) (by simp [results, Try.results85, go_sem, d0, d1, d2, d3, d4]) rfl ⟨rfl, below5 hb (by omega) _ _ _ _ _⟩

set_option maxRecDepth 20000 in
set_option maxHeartbeats 1000000 in
theorem bget_some (bk lb mb cap : Nat) (ps : List PD) (turns : Int) (q : VD) (w : World) (hlen : ps.length ≤ 1048576) (hB : Book w bk lb mb cap ps turns) (m : Nat) (p : PD) (hm : m < ps.length) (hpm : ps[m]? = some p) (h0 : eidx q ps 0 = (m : Int)) :
    Calls Try.prog 85 #[.pointer (some ⟨bk, 0, none⟩), q.v] w fun e w' => e = .returned p.val.v ∧ Below w.heap.size w w' := by
  have HB : Hid (Book w bk lb mb cap ps turns) := hB
  have HM : Hid (ps[m]? = some p) := hpm
  clear hB hpm
  go_enter Try.func85, Try.ntmps85
  go_wp2_with fail
  obtain ⟨b0, b1⟩ := heap2 w (VO q.k q.n q.f q.s q.r) (VO 0 0 0 ⟨#[]⟩ 0)
  obtain ⟨w1, hw⟩ : ∃ w1, w1 = (w.alloc (VO q.k q.n q.f q.s q.r)).alloc (VO 0 0 0 ⟨#[]⟩ 0) := ⟨_, rfl⟩
  rw [← hw] at b0 b1
  have hb : Below w.heap.size w w1 := by rw [hw]; exact bw2 _ _ _
  rw [← hw]; clear hw
  have d0 : w1.cell? ⟨w.heap.size, 0, none⟩ = some (.int .i64 q.k) := by rw [blk_cell b0]; rfl
  have d1 : w1.cell? ⟨w.heap.size, 1, none⟩ = some (.int .i64 q.n) := by rw [blk_cell b0]; rfl
  have d2 : w1.cell? ⟨w.heap.size, 2, none⟩ = some (.float .f64 q.f) := by rw [blk_cell b0]; rfl
  have d3 : w1.cell? ⟨w.heap.size, 3, none⟩ = some (.string q.s) := by rw [blk_cell b0]; rfl
  have d4 : w1.cell? ⟨w.heap.size, 4, none⟩ = some (.int .i64 q.r) := by rw [blk_cell b0]; rfl
  have e0 := lat_cell d0; have e1 := lat_cell d1; have e2 := lat_cell d2; have e3 := lat_cell d3; have e4 := lat_cell d4
  have HL : ∀ x : Lat w1, Hid (MapAt x.wd mb ps) := fun x => HB.out.map.later (hb.trans (x.below.mono hb.size))
  have HC1 : ∀ x : Lat w1, Hid (x.wd.cell? ⟨bk, 1, none⟩ = some (.map (some mb))) := fun x => lat_cell (cell_later hb (by rw [blk_cell HB.out.head]; rfl)) x
  have sl : Slot5 w1 (w.heap.size + 1) := ⟨_, _, _, _, _, _, b1⟩
  clear b0 b1
  haveI := lat_some w1
  refine wp_region_lat (by kernel_rfl) (by kernel_rfl) ?_
  repeat (go_big_quiet_step ((go_at_call 108; refine lat_calls (find_any q bk mb ps _ (HL _).out (HC1 _).out))))
  refine wpQuiet_nil ?_
  rintro _ ⟨nq, rfl⟩
  replace sl := Slot5.later nq.below sl
  replace hb := hb.trans (nq.below.mono hb.size)
  clear e0 e1 e2 e3 e4 d0 d1 d2 d3 d4 HL HC1
  obtain ⟨w2, hw⟩ : ∃ w2, w2 = nq.wd := ⟨_, rfl⟩
  rw [← hw] at sl hb ⊢; clear hw
  obtain ⟨v0, v1, v2, v3, v4, d0, d1, d2, d3, d4, z, hz⟩ := sl.cells
  have c0 : w2.cell? ⟨bk, 0, none⟩ = some (.slice (some ⟨lb, 0, none⟩) ps.length cap) := cell_later hb (by rw [blk_cell HB.out.head]; rfl)
  have hat := HB.out.at
  have c5 : w2.cell? ⟨lb, m * 11 + 5, none⟩ = some (.int .i64 p.val.k) := cell_later hb (by have := hat m p HM.out 5 _ rfl; rw [Nat.zero_add] at this; exact this)
  have c6 : w2.cell? ⟨lb, m * 11 + 6, none⟩ = some (.int .i64 p.val.n) := cell_later hb (by have := hat m p HM.out 6 _ rfl; rw [Nat.zero_add] at this; exact this)
  have c7 : w2.cell? ⟨lb, m * 11 + 7, none⟩ = some (.float .f64 p.val.f) := cell_later hb (by have := hat m p HM.out 7 _ rfl; rw [Nat.zero_add] at this; exact this)
  have c8 : w2.cell? ⟨lb, m * 11 + 8, none⟩ = some (.string p.val.s) := cell_later hb (by have := hat m p HM.out 8 _ rfl; rw [Nat.zero_add] at this; exact this)
  have c9 : w2.cell? ⟨lb, m * 11 + 9, none⟩ = some (.int .i64 p.val.r) := cell_later hb (by have := hat m p HM.out 9 _ rfl; rw [Nat.zero_add] at this; exact this)
  clear hat
  go_wp2_with fail
  exact bodyPost_ret (v := p.val.v) (by simp [results, Try.results85, go_sem, d0, d1, d2, d3, d4]) rfl ⟨rfl, below5 hb (by omega) _ _ _ _ _⟩
end Go.Proofs.Ytkipmogmejfmcaa
