/-
  OWN WORK. Key: both contracts at one function.
-/
import Derived.Test.YtkipmogmejfmcaaSKey
import Derived.Test.YtkipmogmejfmcaaIKey
import Derived.Test.YtkipmogmejfmcaaEq
namespace Go.Proofs.Ytkipmogmejfmcaa
open Go.RowKit
set_option linter.unusedVariables false

/-- What Key answers of a float. -/
def keyF (n : Int) (f : Nat) (s : ByteArray) (r : Int) : Value :=
  if FloatKind.f64.format.order f f ≠ some .eq then RV 5 0 0 0 ⟨#[]⟩ 0
  else if FloatKind.f64.format.order f Fl.C63 = some .lt ∧ (FloatKind.f64.format.order f Fl.N63 = some .gt ∨ FloatKind.f64.format.order f Fl.N63 = some .eq) ∧ FloatKind.f64.format.order f (Fl.flr f) = some .eq then RV 0 2 ((floatToIntVal .f64 f .i64).getD 0) 0 ⟨#[]⟩ 0
  else RV 0 3 n f s r

/-- What Key answers. -/
def keyV (k n : Int) (f : Nat) (s : ByteArray) (r : Int) : Value :=
  if vok k n f s r = false then RV 1 0 0 0 ⟨#[]⟩ 0
  else if k = 0 then RV 5 0 0 0 ⟨#[]⟩ 0
  else if k = 3 then keyF n f s r
  else RV 0 k n f s r

theorem keyF_agg (n : Int) (f : Nat) (s : ByteArray) (r : Int) : ∃ c k' n' f' s' r', keyF n f s r = RV c k' n' f' s' r' := by
  unfold keyF
  split
  · exact ⟨_, _, _, _, _, _, rfl⟩
  · split
    · exact ⟨_, _, _, _, _, _, rfl⟩
    · exact ⟨_, _, _, _, _, _, rfl⟩

theorem keyV_agg (k n : Int) (f : Nat) (s : ByteArray) (r : Int) : ∃ c k' n' f' s' r', keyV k n f s r = RV c k' n' f' s' r' := by
  unfold keyV
  split
  · exact ⟨_, _, _, _, _, _, rfl⟩
  · split
    · exact ⟨_, _, _, _, _, _, rfl⟩
    · split
      · exact keyF_agg n f s r
      · exact ⟨_, _, _, _, _, _, rfl⟩

theorem kres {v : Value} {w : World} {g : FuncId} {ags : Array Value} (h : Calls Try.prog g ags w fun e w' => e = .returned v ∧ Below w.heap.size w w') {u : Value} (hu : u = v) :
    Calls Try.prog g ags w fun e w' => e = .returned u ∧ Below w.heap.size w w' := by rw [hu]; exact h

/-- How a float that is no NaN stands to a number. -/
theorem ord_cases {f c : Nat} {t : Bool} {N K : Nat} (hf : f < 18446744073709551616) (h1 : FloatKind.f64.format.order f f = some .eq) (hc : Ieee.double.read c = .number t N (-1074 + K)) :
    FloatKind.f64.format.order f c = some .lt ∨ FloatKind.f64.format.order f c = some .eq ∨ FloatKind.f64.format.order f c = some .gt := by
  rcases Fl.read_cases f hf with ⟨s, M, L, _, _, hr⟩ | ⟨s, hr⟩ | ⟨s, t, hr⟩
  · rw [Fl.order_wd hr hc]
    rcases compare (Fl.V s M L) (Fl.V t N K) with _ | _ | _ <;> simp
  · have : FloatKind.f64.format.order f c = some (if s then .lt else .gt) := by
      show (Ieee.double.read f).order (Ieee.double.read c) = _
      rw [hr, hc]; rfl
    rw [this]; cases s <;> simp
  · have : FloatKind.f64.format.order f f = none := by
      show (Ieee.double.read f).order (Ieee.double.read f) = _
      rw [hr]; rfl
    rw [this] at h1; cases h1

theorem conv_def {f : Nat} (hf : f < 18446744073709551616) (h1 : FloatKind.f64.format.order f f = some .eq) (h3 : FloatKind.f64.format.order f Fl.C63 = some .lt) (h4 : FloatKind.f64.format.order f Fl.N63 ≠ some .lt) : ∃ T, floatToIntVal .f64 f .i64 = some T := by
  obtain ⟨s, M, L, hc, hw, hr, hlo, hhi⟩ := Fl.num_of hf h1 (by rw [h3]; simp) (by rw [h3]; simp) h4
  exact Fl.conv_any hc hw hlo hhi

theorem skf_any (n : Int) (f : Nat) (s : ByteArray) (r : Int) (w : World) (hs : s.size ≤ maxLen) (hv : vok 3 n f s r = true) (hf : f < 18446744073709551616) :
    Calls Try.prog 30 #[VV 3 n f s r] w fun e w' => e = .returned (keyF n f s r) ∧ Below w.heap.size w w' := by
  by_cases h1 : FloatKind.f64.format.order f f = some .eq
  · by_cases h5 : FloatKind.f64.format.order f (Fl.l1f f) = some .eq
    · rcases ord_cases hf h1 Fl.read_N63 with h4 | h4 | h4
      · exact kres (sk_lt n f s r w hs hv hf h1 h5 h4) (by unfold keyF; rw [if_neg (by simp [h1]), if_neg (by simp [h4])])
      · rcases ord_cases hf h1 Fl.read_C63 with h3 | h3 | h3
        · obtain ⟨T, hT⟩ := conv_def hf h1 h3 (by rw [h4]; simp)
          have hl := Fl.l1f_range hf h1 (by rw [h3]; simp) (by rw [h3]; simp) (by rw [h4]; simp)
          have h6 := h5
          rw [hl] at h6
          exact kres (sk_eq_lt n f s r w hs hv hf h1 h5 h4 h3 T hT) (by unfold keyF; rw [if_neg (by simp [h1]), if_pos (by simp [h3, h4, h6]), hT]; rfl)
        · exact kres (sk_eq_eq n f s r w hs hv hf h1 h5 h4 h3) (by unfold keyF; rw [if_neg (by simp [h1]), if_neg (by simp [h3])])
        · exact kres (sk_eq_gt n f s r w hs hv hf h1 h5 h4 h3) (by unfold keyF; rw [if_neg (by simp [h1]), if_neg (by simp [h3])])
      · rcases ord_cases hf h1 Fl.read_C63 with h3 | h3 | h3
        · obtain ⟨T, hT⟩ := conv_def hf h1 h3 (by rw [h4]; simp)
          have hl := Fl.l1f_range hf h1 (by rw [h3]; simp) (by rw [h3]; simp) (by rw [h4]; simp)
          have h6 := h5
          rw [hl] at h6
          exact kres (sk_gt_lt n f s r w hs hv hf h1 h5 h4 h3 T hT) (by unfold keyF; rw [if_neg (by simp [h1]), if_pos (by simp [h3, h4, h6]), hT]; rfl)
        · exact kres (sk_gt_eq n f s r w hs hv hf h1 h5 h4 h3) (by unfold keyF; rw [if_neg (by simp [h1]), if_neg (by simp [h3])])
        · exact kres (sk_gt_gt n f s r w hs hv hf h1 h5 h4 h3) (by unfold keyF; rw [if_neg (by simp [h1]), if_neg (by simp [h3])])
    · refine kres (sk_ne n f s r w hs hv hf h1 (by simpa using h5)) ?_
      unfold keyF
      rw [if_neg (by simp [h1]), if_neg]
      rintro ⟨h3, h4, h6⟩
      have hl := Fl.l1f_range hf h1 (by rw [h3]; simp) (by rw [h3]; simp) (by rcases h4 with h | h <;> rw [h] <;> simp)
      rw [hl] at h5
      exact h5 h6
  · exact kres (sk_nan n f s r w hs hv hf (order_none hf f h1)) (by unfold keyF; rw [if_pos h1])

theorem ikf_any (n : Int) (f : Nat) (s : ByteArray) (r : Int) (w : World) (hf : f < 18446744073709551616) :
    Calls Try.prog 70 #[VV 3 n f s r, .float .f64 f] w fun e w' => e = .returned (keyF n f s r) ∧ Below w.heap.size w w' := by
  by_cases h1 : FloatKind.f64.format.order f f = some .eq
  · rcases ord_cases hf h1 Fl.read_N63 with h4 | h4 | h4
    · exact kres (ifk_lt 3 n f s r w h1 h4) (by unfold keyF; rw [if_neg (by simp [h1]), if_neg (by simp [h4])])
    · rcases ord_cases hf h1 Fl.read_C63 with h3 | h3 | h3
      · obtain ⟨T, hT⟩ := conv_def hf h1 h3 (by rw [h4]; simp)
        by_cases h6 : FloatKind.f64.format.order f (Fl.flr f) = some .eq
        · exact kres (ifk_eq_lt 3 n f s r w h1 h4 h3 h6 T hT) (by unfold keyF; rw [if_neg (by simp [h1]), if_pos (by simp [h3, h4, h6]), hT]; rfl)
        · exact kres (ifk_eq_lt_ne 3 n f s r w h1 h4 h3 (by simpa using h6)) (by unfold keyF; rw [if_neg (by simp [h1]), if_neg (by simp [h6])])
      · exact kres (ifk_eq_eq 3 n f s r w h1 h4 h3) (by unfold keyF; rw [if_neg (by simp [h1]), if_neg (by simp [h3])])
      · exact kres (ifk_eq_gt 3 n f s r w h1 h4 h3) (by unfold keyF; rw [if_neg (by simp [h1]), if_neg (by simp [h3])])
    · rcases ord_cases hf h1 Fl.read_C63 with h3 | h3 | h3
      · obtain ⟨T, hT⟩ := conv_def hf h1 h3 (by rw [h4]; simp)
        by_cases h6 : FloatKind.f64.format.order f (Fl.flr f) = some .eq
        · exact kres (ifk_gt_lt 3 n f s r w h1 h4 h3 h6 T hT) (by unfold keyF; rw [if_neg (by simp [h1]), if_pos (by simp [h3, h4, h6]), hT]; rfl)
        · exact kres (ifk_gt_lt_ne 3 n f s r w h1 h4 h3 (by simpa using h6)) (by unfold keyF; rw [if_neg (by simp [h1]), if_neg (by simp [h6])])
      · exact kres (ifk_gt_eq 3 n f s r w h1 h4 h3) (by unfold keyF; rw [if_neg (by simp [h1]), if_neg (by simp [h3])])
      · exact kres (ifk_gt_gt 3 n f s r w h1 h4 h3) (by unfold keyF; rw [if_neg (by simp [h1]), if_neg (by simp [h3])])
  · exact kres (ifk_nan 3 n f s r w (order_none hf f h1)) (by unfold keyF; rw [if_pos h1])

theorem sk_any (k n : Int) (f : Nat) (s : ByteArray) (r : Int) (w : World) (hs : s.size ≤ maxLen) (hf : f < 18446744073709551616) :
    Calls Try.prog 30 #[VV k n f s r] w fun e w' => e = .returned (keyV k n f s r) ∧ Below w.heap.size w w' := by
  by_cases hv : vok k n f s r = false
  · exact kres (sk_bad k n f s r w hs hv) (by simp [keyV, hv])
  · replace hv : vok k n f s r = true := by simpa using hv
    by_cases h0 : k = 0
    · subst h0; exact kres (sk_nil n f s r w hs hv) (by simp [keyV, hv])
    · by_cases h3 : k = 3
      · subst h3; exact kres (skf_any n f s r w hs hv hf) (by simp [keyV, hv])
      · exact kres (sk_other k n f s r w hs hv (by simpa using h0) (by simpa using h3)) (by simp [keyV, hv, h0, h3])

theorem ik_any (k n : Int) (f : Nat) (s : ByteArray) (r : Int) (w : World) (hf : f < 18446744073709551616) :
    Calls Try.prog 31 #[VV k n f s r] w fun e w' => e = .returned (keyV k n f s r) ∧ Below w.heap.size w w' := by
  by_cases hv : vok k n f s r = false
  · exact kres (ik_bad k n f s r w hv) (by simp [keyV, hv])
  · replace hv : vok k n f s r = true := by simpa using hv
    rcases vok_kind hv with rfl | rfl | rfl | rfl | rfl | rfl | rfl | rfl | rfl
    · exact kres (ik_0 n f s r w hv) (by simp [keyV, hv])
    · exact kres (ik_1 n f s r w hv) (by simp [keyV, hv])
    · exact kres (ik_2 n f s r w hv) (by simp [keyV, hv])
    · obtain ⟨qc, qk, qn, qf, qs, qr, hq⟩ := keyF_agg n f s r
      refine kres (ik_3 n f s r w hv qc qk qn qf qs qr (fun w => ?_)) (by simp [keyV, hv, hq])
      have h := ikf_any n f s r w hf
      rw [hq] at h
      exact h
    · exact kres (ik_4 n f s r w hv) (by simp [keyV, hv])
    · exact kres (ik_5 n f s r w hv) (by simp [keyV, hv])
    · exact kres (ik_6 n f s r w hv) (by simp [keyV, hv])
    · exact kres (ik_7 n f s r w hv) (by simp [keyV, hv])
    · exact kres (ik_8 n f s r w hv) (by simp [keyV, hv])
end Go.Proofs.Ytkipmogmejfmcaa
