/-
  OWN WORK. The contracts of the laws' own looks: two floats, two values, two answers that are the same to the bit.
-/
import Derived.Test.YtkipmogmejfmcaaMk
namespace Go.Proofs.Ytkipmogmejfmcaa
open Go.RowKit
attribute [local go_sem] run_store_float
set_option linter.unusedVariables false

/-- A boxed answer of six cells, behind a call that keeps what was there. -/
theorem box6 {w w1 : World} {a0 a1 a2 a3 a4 a5 : Value} {t : TypeId} (hb : Below (w.alloc (.cells #[a0, a1, a2, a3, a4, a5] t)).heap.size (w.alloc (.cells #[a0, a1, a2, a3, a4, a5] t)) w1) :
    Below w.heap.size w w1 ∧ w1.cell? ⟨w.heap.size, 0, none⟩ = some a0 ∧ w1.cell? ⟨w.heap.size, 1, none⟩ = some a1 ∧ w1.cell? ⟨w.heap.size, 2, none⟩ = some a2 ∧ w1.cell? ⟨w.heap.size, 3, none⟩ = some a3 ∧ w1.cell? ⟨w.heap.size, 4, none⟩ = some a4 ∧ w1.cell? ⟨w.heap.size, 5, none⟩ = some a5 := by
  refine ⟨((Below.refl _ _).alloc (Nat.le_refl _) _).trans (hb.mono (by simp)), ?_, ?_, ?_, ?_, ?_, ?_⟩
  all_goals
    rw [hb.cell (by simp)]
    simp [go_sem]

theorem order_self (x : Nat) (h : FloatKind.f64.format.order x 0 = some .eq) : ∃ s e, FloatKind.f64.format.read x = .number s 0 e := by
  have h0 : FloatKind.f64.format.read 0 = .number false 0 FloatKind.f64.format.leastPlace := by decide
  unfold Ieee.Format.order at h
  rw [h0] at h
  cases hx : FloatKind.f64.format.read x with
  | number s m e =>
    rw [hx] at h
    simp only [Ieee.Datum.order, Option.some.injEq, Ieee.signed] at h
    refine ⟨s, e, ?_⟩
    have := Int.compare_eq_eq.1 h
    have hm : m = 0 := by
      have hz : m <<< (e - min e FloatKind.f64.format.leastPlace).toNat = 0 := by
        generalize m <<< (e - min e FloatKind.f64.format.leastPlace).toNat = A at this
        rw [Nat.zero_shiftLeft] at this
        cases s <;> simp at this <;> omega
      rw [Nat.shiftLeft_eq] at hz
      rcases Nat.mul_eq_zero.1 hz with h | h
      · exact h
      · exact absurd h (Nat.ne_of_gt (Nat.two_pow_pos _))
    rw [hm]
  | infinity s => rw [hx] at h; simp only [Ieee.Datum.order] at h; cases s <;> simp at h
  | nan s t => rw [hx] at h; simp [Ieee.Datum.order] at h

set_option maxRecDepth 20000 in
set_option maxHeartbeats 400000 in
theorem samef (x : Nat) (w : World) : Calls Try.prog 86 #[.float .f64 x, .float .f64 x] w fun e w' => e = .returned (.bool true) ∧ w' = w := by
  by_cases h1 : FloatKind.f64.format.order x x = some .eq
  · by_cases h2 : FloatKind.f64.format.order x 0 = some .eq
    · obtain ⟨g, e, hx⟩ := order_self x h2
      obtain ⟨q, hq⟩ : ∃ q, floatBits .quo .f64 4607182418800017408 x = some q := by
        have h1' : FloatKind.f64.format.read 4607182418800017408 = .number false 4503599627370496 (-52) := by decide
        refine ⟨FloatKind.f64.format.write (.infinity (false ^^ g)), ?_⟩
        simp [floatBits, Ieee.Format.div, h1', hx, Ieee.Datum.quotient]
      have hr : ∀ w : World, (binOp .quo 22 (.float .f64 4607182418800017408) (.float .f64 x)).run Try.prog w = .ok (.float .f64 q) w := fun w => run_float_arith w .quo 22 .f64 _ _ _ hq
      clear hq hx
      go_enter Try.func86, Try.ntmps86
      go_wp2
      go_ret
      exact ⟨rfl, rfl⟩
    · go_enter Try.func86, Try.ntmps86
      go_wp2
      go_ret
      exact ⟨rfl, rfl⟩
  · have h3 : (FloatKind.f64.format.order x x != some Ordering.eq) = true := by simp [h1]
    go_enter Try.func86, Try.ntmps86
    go_wp2
    go_ret
    exact ⟨by first | rfl | (rw [← h3]; rfl), rfl⟩

set_option maxRecDepth 20000 in
set_option maxHeartbeats 400000 in
theorem eqv (k n : Int) (f : Nat) (s : ByteArray) (r : Int) (w : World) : Calls Try.prog 45 #[VV k n f s r, VV k n f s r] w fun e w' => e = .returned (.bool true) ∧ Below w.heap.size w w' := by
  go_enter Try.func45, Try.ntmps45
  go_wp2_with (go_at_call 86; refine (samef _ _).mono ?_; rintro e w' ⟨rfl, rfl⟩)
  go_ret
  exact ⟨rfl, bw2 _ _ _⟩

set_option maxRecDepth 20000 in
set_option maxHeartbeats 400000 in
theorem eqd (c k n : Int) (f : Nat) (s : ByteArray) (r : Int) (w : World) : Calls Try.prog 32 #[RV c k n f s r, RV c k n f s r] w fun e w' => e = .returned (.bool true) ∧ Below w.heap.size w w' := by
  go_enter Try.func32, Try.ntmps32
  go_wp2_with fail
  refine (eqv _ _ _ _ _ _).mono ?_
  rintro e w1 ⟨rfl, hx⟩
  go_wp2
  go_ret
  exact ⟨rfl, (bw2 _ _ _).trans (hx.mono (by simp; omega))⟩
end Go.Proofs.Ytkipmogmejfmcaa
