/-
  OWN WORK. A boxed value and the slot of an answer of six cells behind it.
-/
import Derived.Test.YtkipmogmejfmcaaMk
namespace Go.Proofs.Ytkipmogmejfmcaa
open Go.RowKit

theorem run_neg_float (P : Program) (w : World) (k : FloatKind) (b : Nat) : (Op.unary .neg (.float k b)).run P w = .ok (.float k (Op.negFloat k b)) w := by simp [Op.unary]

theorem frozen_later {w wx : World} {a : Addr} {v : Value} (hb : Below w.heap.size w wx) (h : w.cell? a = some v) (hz : w.frozen? a = false) : wx.frozen? a = false :=
  (hb.frozen (World.block_lt_of_cell? _ _ h)).trans hz

/-- The slot of an answer: its six cells are there and may be written. -/
def Slot (w : World) (g : Nat) : Prop := ∃ v0 v1 v2 v3 v4 v5 t, w.heap[g]? = some (.cells #[v0, v1, v2, v3, v4, v5] t)

theorem Slot.later {w wx : World} {g : Nat} (hb : Below w.heap.size w wx) (h : Slot w g) : Slot wx g := by
  obtain ⟨v0, v1, v2, v3, v4, v5, t, h⟩ := h
  have hlt : g < w.heap.size := (Array.getElem?_eq_some_iff.1 h).1
  exact ⟨v0, v1, v2, v3, v4, v5, t, (hb.block g hlt).trans h⟩

theorem Slot.cells {w : World} {g : Nat} (h : Slot w g) : ∃ v0 v1 v2 v3 v4 v5, w.cell? ⟨g, 0, none⟩ = some v0 ∧ w.cell? ⟨g, 1, none⟩ = some v1 ∧ w.cell? ⟨g, 2, none⟩ = some v2 ∧ w.cell? ⟨g, 3, none⟩ = some v3 ∧ w.cell? ⟨g, 4, none⟩ = some v4 ∧ w.cell? ⟨g, 5, none⟩ = some v5 ∧ (∀ j, w.frozen? ⟨g, j, none⟩ = false) ∧ g < w.heap.size := by
  obtain ⟨v0, v1, v2, v3, v4, v5, t, h⟩ := h
  have hlt : g < w.heap.size := (Array.getElem?_eq_some_iff.1 h).1
  refine ⟨v0, v1, v2, v3, v4, v5, ?_, ?_, ?_, ?_, ?_, ?_, ?_, hlt⟩
  all_goals simp [World.cell?, World.frozen?, h]

theorem box5s {w w1 : World} {c0 c1 c2 c3 c4 v0 v1 v2 v3 v4 v5 : Value} {t u : TypeId} (hb : Below ((w.alloc (.cells #[c0, c1, c2, c3, c4] t)).alloc (.cells #[v0, v1, v2, v3, v4, v5] u)).heap.size ((w.alloc (.cells #[c0, c1, c2, c3, c4] t)).alloc (.cells #[v0, v1, v2, v3, v4, v5] u)) w1) :
    Below w.heap.size w w1 ∧ Slot w1 (w.heap.size + 1) ∧ w1.cell? ⟨w.heap.size, 0, none⟩ = some c0 ∧ w1.cell? ⟨w.heap.size, 1, none⟩ = some c1 ∧ w1.cell? ⟨w.heap.size, 2, none⟩ = some c2 ∧ w1.cell? ⟨w.heap.size, 3, none⟩ = some c3 ∧ w1.cell? ⟨w.heap.size, 4, none⟩ = some c4 := by
  refine ⟨(bw2 _ _ _).trans (hb.mono (by simp; omega)), ⟨v0, v1, v2, v3, v4, v5, u, ?_⟩, ?_, ?_, ?_, ?_, ?_⟩
  · rw [hb.block _ (by simp)]
    show (((w.heap.push _).push _))[w.heap.size + 1]? = _
    rw [Array.getElem?_push, if_pos (by simp)]
  all_goals
    rw [hb.cell (by simp; omega)]
    simp [go_sem]

theorem box0s {w w1 : World} {v0 v1 v2 v3 v4 v5 : Value} {u : TypeId} (hb : Below (w.alloc (.cells #[v0, v1, v2, v3, v4, v5] u)).heap.size (w.alloc (.cells #[v0, v1, v2, v3, v4, v5] u)) w1) :
    Below w.heap.size w w1 ∧ Slot w1 w.heap.size := by
  refine ⟨(bw1 _ _).trans (hb.mono (by simp)), ⟨v0, v1, v2, v3, v4, v5, u, ?_⟩⟩
  rw [hb.block _ (by simp)]
  show (w.heap.push _)[w.heap.size]? = _
  rw [Array.getElem?_push, if_pos rfl]

theorem below_draw (B : Nat) (w : World) (n : Nat) : Below B w (w.drewN n) := ⟨rfl, rfl, rfl, Nat.le_refl _, fun _ _ => rfl⟩

theorem below6 {B : Nat} {w w1 : World} {g : Nat} (hb : Below B w w1) (hg : B ≤ g) (v0 v1 v2 v3 v4 v5 : Value) : Below B w ((((((w1.setCell ⟨g, 0, none⟩ v0).setCell ⟨g, 1, none⟩ v1).setCell ⟨g, 2, none⟩ v2).setCell ⟨g, 3, none⟩ v3).setCell ⟨g, 4, none⟩ v4).setCell ⟨g, 5, none⟩ v5) :=
  (((((hb.setCell (p := ⟨g, 0, none⟩) hg v0).setCell (p := ⟨g, 1, none⟩) hg v1).setCell (p := ⟨g, 2, none⟩) hg v2).setCell (p := ⟨g, 3, none⟩) hg v3).setCell (p := ⟨g, 4, none⟩) hg v4).setCell (p := ⟨g, 5, none⟩) hg v5
end Go.Proofs.Ytkipmogmejfmcaa
