/-
  OWN WORK. The size look's two ways; two boxed values.
-/
import Derived.Test.YtkipmogmejfmcaaVal
namespace Go.Proofs.Ytkipmogmejfmcaa
open Go.RowKit

theorem sz_ok (k n : Int) (f : Nat) (s : ByteArray) (r l : Int) (w : World) (hs : s.size ≤ maxLen) (h1 : l ≤ 1048576) (hc : 0 ≤ l - s.size) :
    Calls Try.prog 15 #[VV k n f s r, .int .i64 l] w fun e w' => e = .returned (.int .i64 (l - s.size)) ∧ Below w.heap.size w w' := by
  have h := sz_any k n f s r l w hs (by omega) h1
  rw [if_neg (by omega)] at h
  exact h

theorem sz_no (k n : Int) (f : Nat) (s : ByteArray) (r l : Int) (w : World) (hs : s.size ≤ maxLen) (h0 : 0 ≤ l) (h1 : l ≤ 1048576) (hc : l - s.size < 0) :
    Calls Try.prog 15 #[VV k n f s r, .int .i64 l] w fun e w' => e = .returned (.int .i64 (-1)) ∧ Below w.heap.size w w' := by
  have h := sz_any k n f s r l w hs h0 h1
  rw [if_pos hc] at h
  exact h

/-- Two boxed structs, behind a call that keeps what was there. -/
theorem box10 {w w1 : World} {a0 a1 a2 a3 a4 b0 b1 b2 b3 b4 : Value} {t u : TypeId} (hb : Below ((w.alloc (.cells #[a0, a1, a2, a3, a4] t)).alloc (.cells #[b0, b1, b2, b3, b4] u)).heap.size ((w.alloc (.cells #[a0, a1, a2, a3, a4] t)).alloc (.cells #[b0, b1, b2, b3, b4] u)) w1) :
    Below w.heap.size w w1 ∧ w1.cell? ⟨w.heap.size, 0, none⟩ = some a0 ∧ w1.cell? ⟨w.heap.size, 1, none⟩ = some a1 ∧ w1.cell? ⟨w.heap.size, 2, none⟩ = some a2 ∧ w1.cell? ⟨w.heap.size, 3, none⟩ = some a3 ∧ w1.cell? ⟨w.heap.size, 4, none⟩ = some a4 ∧
      w1.cell? ⟨w.heap.size + 1, 0, none⟩ = some b0 ∧ w1.cell? ⟨w.heap.size + 1, 1, none⟩ = some b1 ∧ w1.cell? ⟨w.heap.size + 1, 2, none⟩ = some b2 ∧ w1.cell? ⟨w.heap.size + 1, 3, none⟩ = some b3 ∧ w1.cell? ⟨w.heap.size + 1, 4, none⟩ = some b4 := by
  refine ⟨(bw2 _ _ _).trans (hb.mono (by simp; omega)), ?_, ?_, ?_, ?_, ?_, ?_, ?_, ?_, ?_, ?_⟩
  all_goals
    rw [hb.cell (by simp; try omega)]
    simp [go_sem]
end Go.Proofs.Ytkipmogmejfmcaa
