/-
  OWN WORK. Compare: what it answers; the specification's contract, case by case.
-/
import Derived.Test.YtkipmogmejfmcaaNum
import Derived.Test.YtkipmogmejfmcaaSz
namespace Go.Proofs.Ytkipmogmejfmcaa
open Go.RowKit
attribute [local go_sem] run_store_float
set_option linter.unusedVariables false

/-- An int held against a float that is no NaN. -/
def ifc (i : Int) (x : Nat) : Int :=
  if FloatKind.f64.format.order x Fl.C63 = some .gt ∨ FloatKind.f64.format.order x Fl.C63 = some .eq then -1
  else if FloatKind.f64.format.order x Fl.N63 = some .lt then 1
  else if i < (floatToIntVal .f64 (Fl.flr x) .i64).getD 0 then -1
  else if (floatToIntVal .f64 (Fl.flr x) .i64).getD 0 < i then 1
  else if FloatKind.f64.format.order x (Fl.flr x) = some .gt then -1 else 0

theorem ifc_three (i : Int) (x : Nat) : ifc i x = -1 ∨ ifc i x = 0 ∨ ifc i x = 1 := by
  unfold ifc
  repeat' split
  all_goals simp

theorem ord_of {f c : Nat} {t : Bool} {N K : Nat} (hf : f < 18446744073709551616) (h1 : FloatKind.f64.format.order f f = some .eq) (hc : Ieee.double.read c = .number t N (-1074 + K)) :
    FloatKind.f64.format.order f c = some .lt ∨ FloatKind.f64.format.order f c = some .eq ∨ FloatKind.f64.format.order f c = some .gt := by
  rcases Fl.read_cases f hf with ⟨s, M, L, _, _, hr⟩ | ⟨s, hr⟩ | ⟨s, t, hr⟩
  · rw [Fl.order_wd hr hc]
    rcases compare (Fl.V s M L) (Fl.V t N K) with _ | _ | _ <;> simp
  · have : FloatKind.f64.format.order f c = some (if s then .lt else .gt) := by
      show (Ieee.double.read f).order (Ieee.double.read c) = _
      rw [hr, hc]; rfl
    rw [this]; cases s <;> simp
  · have : FloatKind.f64.format.order f f = none := by
      show (Ieee.double.read f).order (Ieee.double.read f) = _
      rw [hr]; rfl
    rw [this] at h1; cases h1

theorem ires {c d : Int} {w : World} {g : FuncId} {ags : Array Value} (h : Calls Try.prog g ags w fun e w' => e = .returned (.int .i64 c) ∧ w' = w) (hu : d = c) : Calls Try.prog g ags w fun e w' => e = .returned (.int .i64 d) ∧ w' = w := by rw [hu]; exact h

/-- What is known of a float within the range. -/
theorem in_range {x : Nat} (hx : x < 18446744073709551616) (h1 : FloatKind.f64.format.order x x = some .eq) (h3 : FloatKind.f64.format.order x Fl.C63 = some .lt) (h4 : FloatKind.f64.format.order x Fl.N63 ≠ some .lt) :
    Fl.l1f x = Fl.flr x ∧ (∃ F, floatToIntVal .f64 (Fl.flr x) .i64 = some F) ∧ ((FloatKind.f64.format.order (Fl.flr x) x = some .lt ∧ FloatKind.f64.format.order x (Fl.flr x) = some .gt) ∨ (FloatKind.f64.format.order (Fl.flr x) x = some .eq ∧ FloatKind.f64.format.order x (Fl.flr x) = some .eq)) := by
  obtain ⟨s, M, L, hc, hw, hr, hlo, hhi⟩ := Fl.num_of hx h1 (by rw [h3]; simp) (by rw [h3]; simp) h4
  exact ⟨Fl.l1f_range hx h1 (by rw [h3]; simp) (by rw [h3]; simp) h4, Fl.conv_flr hc hw hlo hhi, Fl.flr_order hc hw⟩

theorem sif_any (i : Int) (x : Nat) (w : World) (hx : x < 18446744073709551616) (h1 : FloatKind.f64.format.order x x = some .eq) : Calls Try.prog 62 #[.int .i64 i, .float .f64 x] w fun e w' => e = .returned (.int .i64 (ifc i x)) ∧ w' = w := by
  rcases ord_of hx h1 Fl.read_C63 with h3 | h3 | h3
  · rcases ord_of hx h1 Fl.read_N63 with h4 | h4 | h4
    · exact ires (sif_lo i x w hx h3 h4) (by unfold ifc; rw [if_neg (by simp [h3]), if_pos h4])
    · obtain ⟨hl, ⟨F, hF⟩, ho⟩ := in_range hx h1 h3 (by rw [h4]; simp)
      have hu : ∀ d, (if i < F then -1 else if F < i then 1 else if FloatKind.f64.format.order x (Fl.flr x) = some .gt then -1 else 0) = d → ifc i x = d := by
        intro d hd; unfold ifc; rw [if_neg (by simp [h3]), if_neg (by simp [h4]), hF]; exact hd
      have hF' : floatToIntVal .f64 (Fl.l1f x) .i64 = some F := by rw [hl]; exact hF
      by_cases ha : i < F
      · exact ires (sif_eq_a i x w hx h3 h4 F hF' ha) (hu _ (by rw [if_pos ha]))
      · by_cases hb : F < i
        · exact ires (sif_eq_b i x w hx h3 h4 F hF' hb) (hu _ (by rw [if_neg ha, if_pos hb]))
        · have hi : i = F := by omega
          rcases ho with ho | ho
          · exact ires (sif_eq_c i x w hx h3 h4 F hi hF' (by rw [hl]; exact ho.2)) (hu _ (by rw [if_neg ha, if_neg hb, if_pos ho.2]))
          · exact ires (sif_eq_d i x w hx h3 h4 F hi hF' (by rw [hl]; exact ho.2)) (hu _ (by rw [if_neg ha, if_neg hb, if_neg (by simp [ho.2])]))
    · obtain ⟨hl, ⟨F, hF⟩, ho⟩ := in_range hx h1 h3 (by rw [h4]; simp)
      have hu : ∀ d, (if i < F then -1 else if F < i then 1 else if FloatKind.f64.format.order x (Fl.flr x) = some .gt then -1 else 0) = d → ifc i x = d := by
        intro d hd; unfold ifc; rw [if_neg (by simp [h3]), if_neg (by simp [h4]), hF]; exact hd
      have hF' : floatToIntVal .f64 (Fl.l1f x) .i64 = some F := by rw [hl]; exact hF
      by_cases ha : i < F
      · exact ires (sif_gt_a i x w hx h3 h4 F hF' ha) (hu _ (by rw [if_pos ha]))
      · by_cases hb : F < i
        · exact ires (sif_gt_b i x w hx h3 h4 F hF' hb) (hu _ (by rw [if_neg ha, if_pos hb]))
        · have hi : i = F := by omega
          rcases ho with ho | ho
          · exact ires (sif_gt_c i x w hx h3 h4 F hi hF' (by rw [hl]; exact ho.2)) (hu _ (by rw [if_neg ha, if_neg hb, if_pos ho.2]))
          · exact ires (sif_gt_d i x w hx h3 h4 F hi hF' (by rw [hl]; exact ho.2)) (hu _ (by rw [if_neg ha, if_neg hb, if_neg (by simp [ho.2])]))
  · exact ires (sif_eq i x w hx h3) (by unfold ifc; rw [if_pos (.inr h3)])
  · exact ires (sif_gt i x w hx h3) (by unfold ifc; rw [if_pos (.inl h3)])

theorem iif_any (i : Int) (x : Nat) (w : World) (hx : x < 18446744073709551616) (h1 : FloatKind.f64.format.order x x = some .eq) : Calls Try.prog 98 #[.int .i64 i, .float .f64 x] w fun e w' => e = .returned (.int .i64 (ifc i x)) ∧ w' = w := by
  rcases ord_of hx h1 Fl.read_C63 with h3 | h3 | h3
  · rcases ord_of hx h1 Fl.read_N63 with h4 | h4 | h4
    · exact ires (iif_lo i x w hx h1 h3 h4) (by unfold ifc; rw [if_neg (by simp [h3]), if_pos h4])
    · obtain ⟨hl, ⟨F, hF⟩, ho⟩ := in_range hx h1 h3 (by rw [h4]; simp)
      have hu : ∀ d, (if i < F then -1 else if F < i then 1 else if FloatKind.f64.format.order x (Fl.flr x) = some .gt then -1 else 0) = d → ifc i x = d := by
        intro d hd; unfold ifc; rw [if_neg (by simp [h3]), if_neg (by simp [h4]), hF]; exact hd
      by_cases ha : i < F
      · exact ires (iif_eq_a i x w hx h1 h3 h4 F hF (by unfold ncmp; rw [if_pos ha])) (hu _ (by rw [if_pos ha]))
      · by_cases hb : F < i
        · exact ires (iif_eq_b i x w hx h1 h3 h4 F hF (by unfold ncmp; rw [if_neg ha, if_pos hb])) (hu _ (by rw [if_neg ha, if_pos hb]))
        · rcases ho with ho | ho
          · exact ires (iif_eq_c i x w hx h1 h3 h4 F hF (by unfold ncmp; rw [if_neg ha, if_neg hb])) (hu _ (by rw [if_neg ha, if_neg hb, if_pos ho.2, ho.1]; rfl))
          · exact ires (iif_eq_c i x w hx h1 h3 h4 F hF (by unfold ncmp; rw [if_neg ha, if_neg hb])) (hu _ (by rw [if_neg ha, if_neg hb, if_neg (by simp [ho.2]), ho.1]; rfl))
    · obtain ⟨hl, ⟨F, hF⟩, ho⟩ := in_range hx h1 h3 (by rw [h4]; simp)
      have hu : ∀ d, (if i < F then -1 else if F < i then 1 else if FloatKind.f64.format.order x (Fl.flr x) = some .gt then -1 else 0) = d → ifc i x = d := by
        intro d hd; unfold ifc; rw [if_neg (by simp [h3]), if_neg (by simp [h4]), hF]; exact hd
      by_cases ha : i < F
      · exact ires (iif_gt_a i x w hx h1 h3 h4 F hF (by unfold ncmp; rw [if_pos ha])) (hu _ (by rw [if_pos ha]))
      · by_cases hb : F < i
        · exact ires (iif_gt_b i x w hx h1 h3 h4 F hF (by unfold ncmp; rw [if_neg ha, if_pos hb])) (hu _ (by rw [if_neg ha, if_pos hb]))
        · rcases ho with ho | ho
          · exact ires (iif_gt_c i x w hx h1 h3 h4 F hF (by unfold ncmp; rw [if_neg ha, if_neg hb])) (hu _ (by rw [if_neg ha, if_neg hb, if_pos ho.2, ho.1]; rfl))
          · exact ires (iif_gt_c i x w hx h1 h3 h4 F hF (by unfold ncmp; rw [if_neg ha, if_neg hb])) (hu _ (by rw [if_neg ha, if_neg hb, if_neg (by simp [ho.2]), ho.1]; rfl))
  · exact ires (iif_eq i x w hx h1 h3) (by unfold ifc; rw [if_pos (.inr h3)])
  · exact ires (iif_gt i x w hx h1 h3) (by unfold ifc; rw [if_pos (.inl h3)])

set_option maxRecDepth 20000 in
set_option maxHeartbeats 400000 in
theorem num_any (k n : Int) (f : Nat) (s : ByteArray) (r : Int) (w : World) :
    Calls Try.prog 60 #[VV k n f s r] w fun e w' => e = .returned (.bool (k == 2 || k == 3)) ∧ Below w.heap.size w w' := by
  go_enter Try.func60, Try.ntmps60
  go_wp2
  all_goals
    go_ret
    exact ⟨by first | rfl | simp_all, bw1 _ _⟩
end Go.Proofs.Ytkipmogmejfmcaa
