/-
  OWN WORK. Tables: the laws' copy of a table; two tables that hold the same.
-/
import Derived.Test.YtkipmogmejfmcaaTabCp
import Derived.Test.YtkipmogmejfmcaaEq
namespace Go.Proofs.Ytkipmogmejfmcaa
open Go.RowKit
attribute [local go_sem] run_store_float
set_option linter.unusedVariables false

/-- A row of pairs of one's own: a block that holds just them. -/
def Row (w : World) (g len : Nat) (ps : List PD) : Prop := ∃ ar, w.heap[g]? = some (.cells ar 60) ∧ ar.size = len * 11 ∧ Cont ps ar len

theorem Row.later {w wx : World} {g len : Nat} {ps : List PD} (hb : Below w.heap.size w wx) (h : Row w g len ps) : Row wx g len ps := by
  obtain ⟨ar, h1, h2, h3⟩ := h
  exact ⟨ar, (hb.block g (Array.getElem?_eq_some_iff.1 h1).1).trans h1, h2, h3⟩
theorem Row.at {w : World} {g len : Nat} {ps : List PD} (hl : ps.length = len) (h : Row w g len ps) : PAt w g 0 ps := by
  obtain ⟨ar, h1, h2, h3⟩ := h
  exact cont_at hl h1 h3
theorem Row.set {w : World} {g len k : Nat} {ps : List PD} (h : Row w g len ps) (hk : k ≠ g) (j : Nat) (v : Value) : Row (w.setCell ⟨k, j, none⟩ v) g len ps := by
  obtain ⟨ar, h1, h2, h3⟩ := h
  exact ⟨ar, by rw [Below.heap_setCell _ _ _ _ (by simpa using hk.symm)]; exact h1, h2, h3⟩

theorem heap3 (w : World) (o p q : Obj) : (((w.alloc o).alloc p).alloc q).heap[w.heap.size]? = some o ∧ (((w.alloc o).alloc p).alloc q).heap[w.heap.size + 1]? = some p ∧ (((w.alloc o).alloc p).alloc q).heap[w.heap.size + 1 + 1]? = some q := by
  refine ⟨?_, ?_, ?_⟩
  · show (((w.heap.push _).push _).push _)[w.heap.size]? = _
    simp only [Array.getElem?_push, Array.size_push]
    rw [if_neg (by omega), if_neg (by omega), if_pos trivial]
  · show (((w.heap.push _).push _).push _)[w.heap.size + 1]? = _
    simp only [Array.getElem?_push, Array.size_push]
    rw [if_neg (by omega), if_pos trivial]
  · show (((w.heap.push _).push _).push _)[w.heap.size + 1 + 1]? = _
    simp only [Array.getElem?_push, Array.size_push]
    rw [if_pos trivial]

set_option maxRecDepth 20000 in
set_option maxHeartbeats 1000000 in
theorem tot_some (b off len cap : Nat) (ps : List PD) (turns : Int) (w : World) (hl : ps.length = len) (hp : PAt w b off ps) (hlen : len ≤ 1048576) :
    Calls Try.prog 37 #[.agg #[.slice (some ⟨b, off, none⟩) len cap, .int .i64 turns]] w fun e w' => (∃ g, w.heap.size ≤ g ∧ e = .returned (.agg #[.slice (some ⟨g, 0, none⟩) len len, .int .i64 turns]) ∧ Row w' g len ps) ∧ Below w.heap.size w w' := by
  have HP : Hid (PAt w b off ps) := hp
  clear hp
  go_enter Try.func37, Try.ntmps37
  go_wp2_with fail
  refine (tos_some b off len cap ps _ hl (HP.out.later (bw3 _ _ _ _)) hlen).mono ?_
  rintro e w1 ⟨rfl, hx, hR⟩
  obtain ⟨h30, h31, h32⟩ := heap3 w (.cells #[.slice (some ⟨b, off, none⟩) len cap, .int .i64 turns] 50) (.cells #[.slice none 0 0, .int .i64 0] 55) (.cells #[.slice none 0 0, .int .i64 0] 55)
  have b0 := (hx.block w.heap.size (by simp; omega)).trans h30
  have b1 := (hx.block (w.heap.size + 1) (by simp)).trans h31
  have b2 := (hx.block (w.heap.size + 1 + 1) (by simp)).trans h32
  have hB := (bw3 _ _ _ _).trans (hx.mono (by simp; omega))
  obtain ⟨g, hg⟩ : ∃ g, g = (((w.alloc (.cells #[.slice (some ⟨b, off, none⟩) len cap, .int .i64 turns] 50)).alloc (.cells #[.slice none 0 0, .int .i64 0] 55)).alloc (.cells #[.slice none 0 0, .int .i64 0] 55)).heap.size := ⟨_, rfl⟩
  rw [← hg] at hR ⊢
  have hg3 : w.heap.size + 3 = g := by rw [hg]; simp
  have HR : Hid (Row w1 g len ps) := hR
  clear hR hg hx h30 h31 h32
  have a1 : w1.cell? ⟨w.heap.size, 1, none⟩ = some (.int .i64 turns) := by rw [blk_cell b0]; rfl
  have s0 : w1.cell? ⟨w.heap.size + 1, 0, none⟩ = some (.slice none 0 0) := by rw [blk_cell b1]; rfl
  have s1 : w1.cell? ⟨w.heap.size + 1, 1, none⟩ = some (.int .i64 0) := by rw [blk_cell b1]; rfl
  have o0 : w1.cell? ⟨w.heap.size + 1 + 1, 0, none⟩ = some (.slice none 0 0) := by rw [blk_cell b2]; rfl
  have o1 : w1.cell? ⟨w.heap.size + 1 + 1, 1, none⟩ = some (.int .i64 0) := by rw [blk_cell b2]; rfl
  have z1 := blk_frozen b1
  have z2 := blk_frozen b2
  clear b0 b1 b2
  have HG : Hid (w.heap.size + 3 = g) := hg3
  clear hg3
  go_wp2_with fail
  refine bodyPost_ret (v := .agg #[.slice (some ⟨g, 0, none⟩) len len, .int .i64 turns]) (by simp [results, Try.results37, go_sem, s0, s1]) rfl ⟨⟨g, by have := HG.out; omega, rfl, ?_⟩, ?_⟩
  · have := HG.out
    exact (((HR.out.set (by omega) _ _).set (by omega) _ _).set (by omega) _ _).set (by omega) _ _
  · exact (((hB.setCell (p := ⟨w.heap.size + 1 + 1, 0, none⟩) (by simp; omega) _).setCell (p := ⟨w.heap.size + 1 + 1, 1, none⟩) (by simp; omega) _).setCell (p := ⟨w.heap.size + 1, 0, none⟩) (by simp) _).setCell (p := ⟨w.heap.size + 1, 1, none⟩) (by simp) _
end Go.Proofs.Ytkipmogmejfmcaa
