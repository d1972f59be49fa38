/-
  OWN WORK. Tables: a key that is what Key makes of it.
-/
import Derived.Test.YtkipmogmejfmcaaTab
import Derived.Test.YtkipmogmejfmcaaKey
namespace Go.Proofs.Ytkipmogmejfmcaa
open Go.RowKit
attribute [local go_sem] run_store_float
set_option linter.unusedVariables false

/-- A key that is what Key makes of it. -/
def kok (k n : Int) (f : Nat) (s : ByteArray) (r : Int) : Bool :=
  vok k n f s r && !(k == 0) && (!(k == 3) || (decide (FloatKind.f64.format.order f f = some .eq) && !decide (FloatKind.f64.format.order f Fl.C63 = some .lt ∧ (FloatKind.f64.format.order f Fl.N63 = some .gt ∨ FloatKind.f64.format.order f Fl.N63 = some .eq) ∧ FloatKind.f64.format.order f (Fl.flr f) = some .eq)))

theorem kok_of {k n : Int} {f : Nat} {s : ByteArray} {r : Int} {c k' n' : Int} {f' : Nat} {s' : ByteArray} {r' : Int} (h : keyV k n f s r = RV c k' n' f' s' r') : kok k n f s r = (c == 0 && k' == k) := by
  unfold keyV at h
  unfold kok
  split at h
  · rename_i hv
    simp only [Value.agg.injEq, Array.mk.injEq, List.cons.injEq, Value.int.injEq, true_and] at h
    obtain ⟨rfl, _⟩ := h
    simp [hv]
  · rename_i hv
    have hv' : vok k n f s r = true := by simpa using hv
    split at h
    · rename_i h0
      simp only [Value.agg.injEq, Array.mk.injEq, List.cons.injEq, Value.int.injEq, true_and] at h
      obtain ⟨rfl, _⟩ := h
      simp [h0]
    · rename_i h0
      split at h
      · rename_i h3
        unfold keyF at h
        split at h
        · rename_i h1
          simp only [Value.agg.injEq, Array.mk.injEq, List.cons.injEq, Value.int.injEq, true_and] at h
          obtain ⟨rfl, _⟩ := h
          simp [h3, h1]
        · rename_i h1
          split at h
          · rename_i h2
            simp only [Value.agg.injEq, Array.mk.injEq, List.cons.injEq, Value.int.injEq, true_and] at h
            obtain ⟨rfl, rfl, _⟩ := h
            rw [decide_eq_true h2]
            simp [h3]
          · rename_i h2
            simp only [Value.agg.injEq, Array.mk.injEq, List.cons.injEq, Value.int.injEq, true_and] at h
            obtain ⟨rfl, rfl, _⟩ := h
            have h1' : FloatKind.f64.format.order f f = some .eq := by simpa using h1
            rw [decide_eq_false h2, decide_eq_true h1', hv']
            simp [h3]
      · rename_i h3
        simp only [Value.agg.injEq, Array.mk.injEq, List.cons.injEq, Value.int.injEq, true_and] at h
        obtain ⟨rfl, rfl, _⟩ := h
        simp [hv', h0, h3]

set_option maxRecDepth 20000 in
set_option maxHeartbeats 400000 in
theorem keyok_any (k n : Int) (f : Nat) (s : ByteArray) (r : Int) (w : World) (hs : s.size ≤ maxLen) (hf : f < 18446744073709551616) :
    Calls Try.prog 77 #[VV k n f s r] w fun e w' => e = .returned (.bool (kok k n f s r)) ∧ Below w.heap.size w w' := by
  obtain ⟨qc, qk, qn, qf, qs, qr, hU⟩ := keyV_agg k n f s r
  have hK : Hid (kok k n f s r = (qc == 0 && qk == k)) := kok_of hU
  go_enter Try.func77, Try.ntmps77
  go_wp2_with fail
  refine (sk_any _ _ _ _ _ _ hs hf).mono ?_
  rintro e w101 ⟨rfl, hx⟩
  obtain ⟨hb, c0, c1, c2, c3, c4⟩ := box5 hx
  clear hx
  have hz := World.block_lt_of_cell? _ _ c0
  go_wp2_with fail
  all_goals
    go_ret
    refine ⟨?_, ?_⟩
    · rw [hK.out]; simp_all
    · exact hb.alloc hb.size _
end Go.Proofs.Ytkipmogmejfmcaa
