/-
  OWN WORK. Tables: TableOk, l2get, Get of the specification.
-/
import Derived.Test.YtkipmogmejfmcaaTabEq
import Derived.Test.YtkipmogmejfmcaaSlot
namespace Go.Proofs.Ytkipmogmejfmcaa
open Go.RowKit
attribute [local go_sem] run_store_float
set_option linter.unusedVariables false

/-- A valid table. -/
def tokV (ps : List PD) (turns : Int) : Bool := decide (ps.length ≤ 500) && decide (0 ≤ turns) && decide (turns ≤ 1000000000000) && tokL turns [] ps 0

set_option maxRecDepth 20000 in
set_option maxHeartbeats 1000000 in
theorem tok_len (b off len cap : Nat) (turns : Int) (w : World) (hlen : len ≤ 1048576) (h : 500 < len) :
    Calls Try.prog 36 #[.agg #[.slice (some ⟨b, off, none⟩) len cap, .int .i64 turns]] w fun e w' => e = .returned (.bool false) ∧ Below w.heap.size w w' := by
  go_enter Try.func36, Try.ntmps36
  go_wp2_with fail
  go_ret
  exact ⟨rfl, bw1 _ _⟩

set_option maxRecDepth 20000 in
set_option maxHeartbeats 1000000 in
theorem tok_lo (b off len cap : Nat) (turns : Int) (w : World) (hlen : len ≤ 1048576) (h' : len ≤ 500) (h : turns < 0) :
    Calls Try.prog 36 #[.agg #[.slice (some ⟨b, off, none⟩) len cap, .int .i64 turns]] w fun e w' => e = .returned (.bool false) ∧ Below w.heap.size w w' := by
  go_enter Try.func36, Try.ntmps36
  go_wp2_with fail
  go_ret
  exact ⟨rfl, bw1 _ _⟩

set_option maxRecDepth 20000 in
set_option maxHeartbeats 1000000 in
theorem tok_hi (b off len cap : Nat) (turns : Int) (w : World) (hlen : len ≤ 1048576) (h' : len ≤ 500) (h'' : 0 ≤ turns) (h : 1000000000000 < turns) :
    Calls Try.prog 36 #[.agg #[.slice (some ⟨b, off, none⟩) len cap, .int .i64 turns]] w fun e w' => e = .returned (.bool false) ∧ Below w.heap.size w w' := by
  go_enter Try.func36, Try.ntmps36
  go_wp2_with fail
  go_ret
  exact ⟨rfl, bw1 _ _⟩

theorem tok_any (b off len cap : Nat) (ps : List PD) (turns : Int) (w : World) (hl : ps.length = len) (hp : PAt w b off ps) (hlen : len ≤ 1048576) (hok : ∀ p ∈ ps, p.ok) :
    Calls Try.prog 36 #[.agg #[.slice (some ⟨b, off, none⟩) len cap, .int .i64 turns]] w fun e w' => e = .returned (.bool (tokV ps turns)) ∧ Below w.heap.size w w' := by
  by_cases h1 : 500 < len
  · have hv : tokV ps turns = false := by unfold tokV; rw [decide_eq_false (by omega)]; rfl
    rw [hv]; exact tok_len b off len cap turns w hlen h1
  · by_cases h2 : turns < 0
    · have hv : tokV ps turns = false := by unfold tokV; rw [decide_eq_false (p := 0 ≤ turns) (by omega)]; simp
      rw [hv]; exact tok_lo b off len cap turns w hlen (by omega) h2
    · by_cases h3 : 1000000000000 < turns
      · have hv : tokV ps turns = false := by unfold tokV; rw [decide_eq_false (p := turns ≤ 1000000000000) (by omega)]; simp
        rw [hv]; exact tok_hi b off len cap turns w hlen (by omega) (by omega) h3
      · have hv : tokV ps turns = tokL turns [] ps 0 := by unfold tokV; rw [decide_eq_true (p := ps.length ≤ 500) (by omega), decide_eq_true (p := 0 ≤ turns) (by omega), decide_eq_true (p := turns ≤ 1000000000000) (by omega)]; simp
        rw [hv]; exact tok_loop b off len cap ps turns w hl hp (by omega) (by omega) (by omega) hok

/-- The slot of an answer of five cells. -/
def Slot5 (w : World) (g : Nat) : Prop := ∃ v0 v1 v2 v3 v4 t, w.heap[g]? = some (.cells #[v0, v1, v2, v3, v4] t)
theorem Slot5.later {w wx : World} {g : Nat} (hb : Below w.heap.size w wx) (h : Slot5 w g) : Slot5 wx g := by
  obtain ⟨v0, v1, v2, v3, v4, t, h⟩ := h
  exact ⟨v0, v1, v2, v3, v4, t, (hb.block g (Array.getElem?_eq_some_iff.1 h).1).trans h⟩
theorem Slot5.cells {w : World} {g : Nat} (h : Slot5 w g) : ∃ v0 v1 v2 v3 v4, w.cell? ⟨g, 0, none⟩ = some v0 ∧ w.cell? ⟨g, 1, none⟩ = some v1 ∧ w.cell? ⟨g, 2, none⟩ = some v2 ∧ w.cell? ⟨g, 3, none⟩ = some v3 ∧ w.cell? ⟨g, 4, none⟩ = some v4 ∧ (∀ j, w.frozen? ⟨g, j, none⟩ = false) ∧ g < w.heap.size := by
  obtain ⟨v0, v1, v2, v3, v4, t, h⟩ := h
  refine ⟨v0, v1, v2, v3, v4, ?_, ?_, ?_, ?_, ?_, blk_frozen h, (Array.getElem?_eq_some_iff.1 h).1⟩
  all_goals rw [blk_cell h]; rfl
theorem below5 {B : Nat} {w w1 : World} {g : Nat} (hb : Below B w w1) (hg : B ≤ g) (v0 v1 v2 v3 v4 : Value) : Below B w (((((w1.setCell ⟨g, 0, none⟩ v0).setCell ⟨g, 1, none⟩ v1).setCell ⟨g, 2, none⟩ v2).setCell ⟨g, 3, none⟩ v3).setCell ⟨g, 4, none⟩ v4) :=
  ((((hb.setCell (p := ⟨g, 0, none⟩) hg v0).setCell (p := ⟨g, 1, none⟩) hg v1).setCell (p := ⟨g, 2, none⟩) hg v2).setCell (p := ⟨g, 3, none⟩) hg v3).setCell (p := ⟨g, 4, none⟩) hg v4

theorem keyV_ok {k n : Int} {f : Nat} {s : ByteArray} {r c k' n' : Int} {f' : Nat} {s' : ByteArray} {r' : Int} (hf : f < 18446744073709551616) (hs : s.size ≤ maxLen) (h : keyV k n f s r = RV c k' n' f' s' r') : f' < 18446744073709551616 ∧ s'.size ≤ maxLen := by
  have e0 : (⟨#[]⟩ : ByteArray).size ≤ maxLen := by show 0 ≤ maxLen; exact Nat.zero_le _
  unfold keyV at h
  split at h
  · simp only [Value.agg.injEq, Array.mk.injEq, List.cons.injEq, Value.int.injEq, Value.float.injEq, Value.string.injEq, true_and, and_true] at h
    obtain ⟨_, _, _, rfl, rfl, _⟩ := h; exact ⟨by omega, e0⟩
  · split at h
    · simp only [Value.agg.injEq, Array.mk.injEq, List.cons.injEq, Value.int.injEq, Value.float.injEq, Value.string.injEq, true_and, and_true] at h
      obtain ⟨_, _, _, rfl, rfl, _⟩ := h; exact ⟨by omega, e0⟩
    · split at h
      · unfold keyF at h
        split at h
        · simp only [Value.agg.injEq, Array.mk.injEq, List.cons.injEq, Value.int.injEq, Value.float.injEq, Value.string.injEq, true_and, and_true] at h
          obtain ⟨_, _, _, rfl, rfl, _⟩ := h; exact ⟨by omega, e0⟩
        · split at h
          · simp only [Value.agg.injEq, Array.mk.injEq, List.cons.injEq, Value.int.injEq, Value.float.injEq, Value.string.injEq, true_and, and_true] at h
            obtain ⟨_, _, _, rfl, rfl, _⟩ := h; exact ⟨by omega, e0⟩
          · simp only [Value.agg.injEq, Array.mk.injEq, List.cons.injEq, Value.int.injEq, Value.float.injEq, Value.string.injEq, true_and, and_true] at h
            obtain ⟨_, _, _, rfl, rfl, _⟩ := h; exact ⟨hf, hs⟩
      · simp only [Value.agg.injEq, Array.mk.injEq, List.cons.injEq, Value.int.injEq, Value.float.injEq, Value.string.injEq, true_and, and_true] at h
        obtain ⟨_, _, _, rfl, rfl, _⟩ := h; exact ⟨hf, hs⟩

set_option maxRecDepth 20000 in
set_option maxHeartbeats 1000000 in
theorem get_code (b off len cap : Nat) (turns : Int) (q : VD) (w : World) (hq : q.ok) (qc qk qn : Int) (qf : Nat) (qs : ByteArray) (qr : Int) (hc : (qc == 0) = false) (hU : keyV q.k q.n q.f q.s q.r = RV qc qk qn qf qs qr) :
    Calls Try.prog 84 #[.agg #[.slice (some ⟨b, off, none⟩) len cap, .int .i64 turns], VV q.k q.n q.f q.s q.r] w fun e w' => e = .returned (VV 0 0 0 ⟨#[]⟩ 0) ∧ Below w.heap.size w w' := by
  go_enter Try.func84, Try.ntmps84
  go_wp2_with fail
  refine (sk_any _ _ _ _ _ _ hq.2 hq.1).mono ?_
  rintro e w1 ⟨rfl, hx⟩
  obtain ⟨h0, h1, h2⟩ := heap3 w (.cells #[.slice (some ⟨b, off, none⟩) len cap, .int .i64 turns] 55) (VO q.k q.n q.f q.s q.r) (VO 0 0 0 ⟨#[]⟩ 0)
  have sl : Slot5 w1 (w.heap.size + 1 + 1) := ⟨_, _, _, _, _, _, (hx.block (w.heap.size + 1 + 1) (by simp)).trans h2⟩
  have hb := (bw3 _ _ _ _).trans (hx.mono (by simp; omega))
  clear hx h0 h1 h2
  obtain ⟨v0, v1, v2, v3, v4, d0, d1, d2, d3, d4, z, hz⟩ := sl.cells
  go_wp2_with fail
  exact bodyPost_ret (v := VV 0 0 0 ⟨#[]⟩ 0) (by simp [results, Try.results84, go_sem, d0, d1, d2, d3, d4, hz]) rfl ⟨rfl, bwN (below5 hb (by omega) _ _ _ _ _) _⟩

set_option maxRecDepth 20000 in
set_option maxHeartbeats 1000000 in
theorem get_none (b off len cap : Nat) (ps : List PD) (turns : Int) (q : VD) (w : World) (hl : ps.length = len) (hp : PAt w b off ps) (hlen : len ≤ 1048576) (hok : ∀ p ∈ ps, p.ok) (hq : q.ok) (q' : VD) (hq' : q'.ok) (hU : keyV q.k q.n q.f q.s q.r = RV 0 q'.k q'.n q'.f q'.s q'.r) (hi : fidx q' ps 0 < 0) :
    Calls Try.prog 84 #[.agg #[.slice (some ⟨b, off, none⟩) len cap, .int .i64 turns], VV q.k q.n q.f q.s q.r] w fun e w' => e = .returned (VV 0 0 0 ⟨#[]⟩ 0) ∧ Below w.heap.size w w' := by
  have HP : Hid (PAt w b off ps) := hp
  have HO : Hid (∀ p ∈ ps, p.ok) := hok
  clear hp hok
  go_enter Try.func84, Try.ntmps84
  go_wp2_with fail
  refine (sk_any _ _ _ _ _ _ hq.2 hq.1).mono ?_
  rintro e w1 ⟨rfl, hx⟩
  obtain ⟨h0, h1, h2⟩ := heap3 w (.cells #[.slice (some ⟨b, off, none⟩) len cap, .int .i64 turns] 55) (VO q.k q.n q.f q.s q.r) (VO 0 0 0 ⟨#[]⟩ 0)
  have sl : Slot5 w1 (w.heap.size + 1 + 1) := ⟨_, _, _, _, _, _, (hx.block (w.heap.size + 1 + 1) (by simp)).trans h2⟩
  have b0 := (hx.block w.heap.size (by simp; omega)).trans h0
  have t0 : w1.cell? ⟨w.heap.size, 0, none⟩ = some (.slice (some ⟨b, off, none⟩) len cap) := by rw [blk_cell b0]; rfl
  have t1 : w1.cell? ⟨w.heap.size, 1, none⟩ = some (.int .i64 turns) := by rw [blk_cell b0]; rfl
  have hz0 := World.block_lt_of_cell? _ _ t0
  have hb := (bw3 _ _ _ _).trans (hx.mono (by simp; omega))
  clear hx h0 h1 h2 b0
  go_wp2_with fail
  refine (at_some b off len cap ps turns q' _ hl (HP.out.later (bwN hb _)) hlen (fun p hp => (HO.out p hp).1) hq').mono ?_
  rintro e w2 ⟨rfl, hx⟩
  have hy : Below w1.heap.size w1 w2 := (bw1 _ _).trans (hx.mono (by simp))
  replace hb := hb.trans (hy.mono hb.size)
  replace sl := Slot5.later hy sl
  replace t0 := cell_later hy t0
  clear hx hy t1 hz0
  obtain ⟨v0, v1, v2, v3, v4, d0, d1, d2, d3, d4, z, hz⟩ := sl.cells
  go_wp2_with fail
  exact bodyPost_ret (v := VV 0 0 0 ⟨#[]⟩ 0) (by simp [results, Try.results84, go_sem, d0, d1, d2, d3, d4]) rfl ⟨rfl, below5 hb (by omega) _ _ _ _ _⟩

set_option maxRecDepth 20000 in
set_option maxHeartbeats 1000000 in
theorem get_some (b off len cap : Nat) (ps : List PD) (turns : Int) (q : VD) (w : World) (hl : ps.length = len) (hp : PAt w b off ps) (hlen : len ≤ 1048576) (hok : ∀ p ∈ ps, p.ok) (hq : q.ok) (q' : VD) (hq' : q'.ok) (hU : keyV q.k q.n q.f q.s q.r = RV 0 q'.k q'.n q'.f q'.s q'.r) (m : Nat) (p : PD) (hm : m < len) (hpm : ps[m]? = some p) (hi : fidx q' ps 0 = (m : Int)) :
    Calls Try.prog 84 #[.agg #[.slice (some ⟨b, off, none⟩) len cap, .int .i64 turns], VV q.k q.n q.f q.s q.r] w fun e w' => e = .returned (VV p.val.k p.val.n p.val.f p.val.s p.val.r) ∧ Below w.heap.size w w' := by
  have HP : Hid (PAt w b off ps) := hp
  have HO : Hid (∀ p ∈ ps, p.ok) := hok
  clear hp hok
  have HI : Hid (fidx q' ps 0 = (m : Int)) := hi
  have HM : Hid (ps[m]? = some p) := hpm
  clear hi hpm
  go_enter Try.func84, Try.ntmps84
  go_wp2_with fail
  refine (sk_any _ _ _ _ _ _ hq.2 hq.1).mono ?_
  rintro e w1 ⟨rfl, hx⟩
  obtain ⟨h0, h1, h2⟩ := heap3 w (.cells #[.slice (some ⟨b, off, none⟩) len cap, .int .i64 turns] 55) (VO q.k q.n q.f q.s q.r) (VO 0 0 0 ⟨#[]⟩ 0)
  have sl : Slot5 w1 (w.heap.size + 1 + 1) := ⟨_, _, _, _, _, _, (hx.block (w.heap.size + 1 + 1) (by simp)).trans h2⟩
  have b0 := (hx.block w.heap.size (by simp; omega)).trans h0
  have t0 : w1.cell? ⟨w.heap.size, 0, none⟩ = some (.slice (some ⟨b, off, none⟩) len cap) := by rw [blk_cell b0]; rfl
  have t1 : w1.cell? ⟨w.heap.size, 1, none⟩ = some (.int .i64 turns) := by rw [blk_cell b0]; rfl
  have hz0 := World.block_lt_of_cell? _ _ t0
  have hb := (bw3 _ _ _ _).trans (hx.mono (by simp; omega))
  clear hx h0 h1 h2 b0
  go_wp2_with fail
  refine (at_some b off len cap ps turns q' _ hl (HP.out.later (bwN hb _)) hlen (fun p hp => (HO.out p hp).1) hq').mono ?_
  rintro e w2 ⟨rfl, hx⟩
  have hy : Below w1.heap.size w1 w2 := (bw1 _ _).trans (hx.mono (by simp))
  replace hb := hb.trans (hy.mono hb.size)
  replace sl := Slot5.later hy sl
  replace t0 := cell_later hy t0
  clear hx hy t1 hz0
  obtain ⟨v0, v1, v2, v3, v4, d0, d1, d2, d3, d4, z, hz⟩ := sl.cells
  rw [HI.out]
  have c0 : w2.cell? ⟨b, off + m * 11 + 5, none⟩ = some (.int .i64 p.val.k) := cell_later hb (HP.out m p HM.out 5 _ rfl)
  have c1 : w2.cell? ⟨b, off + m * 11 + 5 + 1, none⟩ = some (.int .i64 p.val.n) := cell_later hb (HP.out m p HM.out 6 _ rfl)
  have c2 : w2.cell? ⟨b, off + m * 11 + 5 + 2, none⟩ = some (.float .f64 p.val.f) := cell_later hb (HP.out m p HM.out 7 _ rfl)
  have c3 : w2.cell? ⟨b, off + m * 11 + 5 + 3, none⟩ = some (.string p.val.s) := cell_later hb (HP.out m p HM.out 8 _ rfl)
  have c4 : w2.cell? ⟨b, off + m * 11 + 5 + 4, none⟩ = some (.int .i64 p.val.r) := cell_later hb (HP.out m p HM.out 9 _ rfl)
  go_wp2_with fail
  exact bodyPost_ret (v := VV p.val.k p.val.n p.val.f p.val.s p.val.r) (by simp [results, Try.results84, go_sem, d0, d1, d2, d3, d4]) rfl ⟨rfl, below5 hb (by omega) _ _ _ _ _⟩
end Go.Proofs.Ytkipmogmejfmcaa
