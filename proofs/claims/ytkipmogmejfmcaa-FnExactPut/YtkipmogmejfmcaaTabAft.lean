/-
  OWN WORK. Tables: l2after of the specification.
-/
import Derived.Test.YtkipmogmejfmcaaTabGet
namespace Go.Proofs.Ytkipmogmejfmcaa
open Go.RowKit
attribute [local go_sem] run_store_float
set_option linter.unusedVariables false

/-- An answer of After: found, and the pair. -/
abbrev FV (f : Bool) (p : PD) : Value := .agg #[.bool f, .int .i64 p.key.k, .int .i64 p.key.n, .float .f64 p.key.f, .string p.key.s, .int .i64 p.key.r, .int .i64 p.val.k, .int .i64 p.val.n, .float .f64 p.val.f, .string p.val.s, .int .i64 p.val.r, .int .i64 p.turn]
def pd0 : PD := ⟨⟨0, 0, 0, ⟨#[]⟩, 0⟩, ⟨0, 0, 0, ⟨#[]⟩, 0⟩, 0⟩

/-- The first pair whose turn is above. -/
def aft (turn : Int) : List PD → Option PD
  | [] => none
  | p :: ps => if turn < p.turn then some p else aft turn ps

/-- The slot of an answer of twelve cells. -/
def Slot12 (w : World) (g : Nat) : Prop := ∃ arr t, w.heap[g]? = some (.cells arr t) ∧ arr.size = 12
theorem Slot12.later {w wx : World} {g : Nat} (hb : Below w.heap.size w wx) (h : Slot12 w g) : Slot12 wx g := by
  obtain ⟨arr, t, h, hs⟩ := h
  exact ⟨arr, t, (hb.block g (Array.getElem?_eq_some_iff.1 h).1).trans h, hs⟩
theorem Slot12.cells {w : World} {g : Nat} (h : Slot12 w g) : ∃ v0 v1 v2 v3 v4 v5 v6 v7 v8 v9 v10 v11, w.cell? ⟨g, 0, none⟩ = some v0 ∧ w.cell? ⟨g, 1, none⟩ = some v1 ∧ w.cell? ⟨g, 2, none⟩ = some v2 ∧ w.cell? ⟨g, 3, none⟩ = some v3 ∧ w.cell? ⟨g, 4, none⟩ = some v4 ∧ w.cell? ⟨g, 5, none⟩ = some v5 ∧ w.cell? ⟨g, 6, none⟩ = some v6 ∧ w.cell? ⟨g, 7, none⟩ = some v7 ∧ w.cell? ⟨g, 8, none⟩ = some v8 ∧ w.cell? ⟨g, 9, none⟩ = some v9 ∧ w.cell? ⟨g, 10, none⟩ = some v10 ∧ w.cell? ⟨g, 11, none⟩ = some v11 ∧ (∀ j, w.frozen? ⟨g, j, none⟩ = false) ∧ g < w.heap.size := by
  obtain ⟨arr, t, h, hs⟩ := h
  refine ⟨arr[0]'(by omega), arr[1]'(by omega), arr[2]'(by omega), arr[3]'(by omega), arr[4]'(by omega), arr[5]'(by omega), arr[6]'(by omega), arr[7]'(by omega), arr[8]'(by omega), arr[9]'(by omega), arr[10]'(by omega), arr[11]'(by omega), ?_, ?_, ?_, ?_, ?_, ?_, ?_, ?_, ?_, ?_, ?_, ?_, blk_frozen h, (Array.getElem?_eq_some_iff.1 h).1⟩
  all_goals rw [blk_cell h]; simp
theorem below12 {B : Nat} {w w1 : World} {g : Nat} (hb : Below B w w1) (hg : B ≤ g) (v0 v1 v2 v3 v4 v5 v6 v7 v8 v9 v10 v11 : Value) : Below B w ((((((((((((w1.setCell ⟨g, 0, none⟩ v0).setCell ⟨g, 1, none⟩ v1).setCell ⟨g, 2, none⟩ v2).setCell ⟨g, 3, none⟩ v3).setCell ⟨g, 4, none⟩ v4).setCell ⟨g, 5, none⟩ v5).setCell ⟨g, 6, none⟩ v6).setCell ⟨g, 7, none⟩ v7).setCell ⟨g, 8, none⟩ v8).setCell ⟨g, 9, none⟩ v9).setCell ⟨g, 10, none⟩ v10).setCell ⟨g, 11, none⟩ v11) := ((((((((((((hb.setCell (p := ⟨g, 0, none⟩) hg v0).setCell (p := ⟨g, 1, none⟩) hg v1).setCell (p := ⟨g, 2, none⟩) hg v2).setCell (p := ⟨g, 3, none⟩) hg v3).setCell (p := ⟨g, 4, none⟩) hg v4).setCell (p := ⟨g, 5, none⟩) hg v5).setCell (p := ⟨g, 6, none⟩) hg v6).setCell (p := ⟨g, 7, none⟩) hg v7).setCell (p := ⟨g, 8, none⟩) hg v8).setCell (p := ⟨g, 9, none⟩) hg v9).setCell (p := ⟨g, 10, none⟩) hg v10).setCell (p := ⟨g, 11, none⟩) hg v11)

set_option maxRecDepth 20000 in
set_option maxHeartbeats 1000000 in
theorem aft_any (b off len cap : Nat) (ps : List PD) (turns turn : Int) (w : World) (hl : ps.length = len) (hp : PAt w b off ps) (hlen : len ≤ 1048576) (hok : ∀ p ∈ ps, p.ok) :
    Calls Try.prog 81 #[.agg #[.slice (some ⟨b, off, none⟩) len cap, .int .i64 turns], .int .i64 turn] w fun e w' => e = .returned (FV (aft turn ps).isSome ((aft turn ps).getD pd0)) ∧ Below w.heap.size w w' := by
  have HP : Hid (PAt w b off ps) := hp
  have HO : Hid (∀ p ∈ ps, p.ok) := hok
  clear hp hok
  go_enter Try.func81, Try.ntmps81
  go_wp2_with fail
  go_loopw [10] (fun c wr => ∃ m : Nat, m ≤ len ∧ c = .int .i64 m ∧ Below w.heap.size w wr ∧ Slot12 wr (w.heap.size + 1) ∧ Hid (aft turn (ps.drop m) = aft turn ps)) (fun c _ => len - (intOf c).toNat)
  case atStart => exact ⟨0, Nat.zero_le _, rfl, bw2 _ _ _, ⟨_, _, (heap2 _ _ _).2, rfl⟩, rfl⟩
  case round =>
    obtain ⟨m, hm, rfl, hB, sl, hF⟩ := hrel
    by_cases k1 : m < len
    · obtain ⟨p, hpm⟩ : ∃ p, ps[m]? = some p := ⟨ps[m]'(by omega), by simp⟩
      have c0 : wr.cell? ⟨b, off + m * 11, none⟩ = some (.int .i64 p.key.k) := cell_later hB (HP.out m p hpm 0 _ rfl)
      have c1 : wr.cell? ⟨b, off + m * 11 + 1, none⟩ = some (.int .i64 p.key.n) := cell_later hB (HP.out m p hpm 1 _ rfl)
      have c2 : wr.cell? ⟨b, off + m * 11 + 2, none⟩ = some (.float .f64 p.key.f) := cell_later hB (HP.out m p hpm 2 _ rfl)
      have c3 : wr.cell? ⟨b, off + m * 11 + 3, none⟩ = some (.string p.key.s) := cell_later hB (HP.out m p hpm 3 _ rfl)
      have c4 : wr.cell? ⟨b, off + m * 11 + 4, none⟩ = some (.int .i64 p.key.r) := cell_later hB (HP.out m p hpm 4 _ rfl)
      have c5 : wr.cell? ⟨b, off + m * 11 + 5, none⟩ = some (.int .i64 p.val.k) := cell_later hB (HP.out m p hpm 5 _ rfl)
      have c6 : wr.cell? ⟨b, off + m * 11 + 6, none⟩ = some (.int .i64 p.val.n) := cell_later hB (HP.out m p hpm 6 _ rfl)
      have c7 : wr.cell? ⟨b, off + m * 11 + 7, none⟩ = some (.float .f64 p.val.f) := cell_later hB (HP.out m p hpm 7 _ rfl)
      have c8 : wr.cell? ⟨b, off + m * 11 + 8, none⟩ = some (.string p.val.s) := cell_later hB (HP.out m p hpm 8 _ rfl)
      have c9 : wr.cell? ⟨b, off + m * 11 + 9, none⟩ = some (.int .i64 p.val.r) := cell_later hB (HP.out m p hpm 9 _ rfl)
      have c10 : wr.cell? ⟨b, off + m * 11 + 10, none⟩ = some (.int .i64 p.turn) := cell_later hB (HP.out m p hpm 10 _ rfl)
      have HD : Hid ((if turn < p.turn then some p else aft turn (ps.drop (m + 1))) = aft turn ps) := by
        have := hF.out; rw [drop_snoc hpm] at this; exact this
      clear hpm hF
      by_cases k2 : turn < p.turn
      · have HR : Hid (aft turn ps = some p) := by show aft turn ps = some p; rw [← HD.out, if_pos k2]
        clear HD
        obtain ⟨v0, v1, v2, v3, v4, v5, v6, v7, v8, v9, v10, v11, d0, d1, d2, d3, d4, d5, d6, d7, d8, d9, d10, d11, z, hz⟩ := sl.cells
        go_wp2_with fail
        refine bodyPost_ret (v := FV true p) (by simp [results, Try.results81, go_sem, d0, d1, d2, d3, d4, d5, d6, d7, d8, d9, d10, d11, hz]) rfl ⟨?_, bwN (below12 hB (by omega) _ _ _ _ _ _ _ _ _ _ _ _) _⟩
        rw [HR.out]; rfl
      · have HR : Hid (aft turn (ps.drop (m + 1)) = aft turn ps) := by have := HD.out; rw [if_neg k2] at this; exact this
        clear HD
        go_wp2_with fail
        clear c0 c1 c2 c3 c4 c5 c6 c7 c8 c9 c10
        go_roundw
        case rel => exact ⟨m + 1, by omega, by go_num, bwN hB _, sl.later (bw1 _ _), HR⟩
        case measure => simp [intOf]; omega
    · have HR : Hid (aft turn ps = none) := by
        have := hF.out
        rw [List.drop_of_length_le (by omega)] at this
        exact this.symm
      clear hF
      obtain ⟨v0, v1, v2, v3, v4, v5, v6, v7, v8, v9, v10, v11, d0, d1, d2, d3, d4, d5, d6, d7, d8, d9, d10, d11, z, hz⟩ := sl.cells
      go_wp2_with fail
      refine bodyPost_ret (v := FV false pd0) (by simp [results, Try.results81, go_sem, d0, d1, d2, d3, d4, d5, d6, d7, d8, d9, d10, d11, pd0]) rfl ⟨?_, below12 hB (by omega) _ _ _ _ _ _ _ _ _ _ _ _⟩
      rw [HR.out]; rfl
end Go.Proofs.Ytkipmogmejfmcaa
