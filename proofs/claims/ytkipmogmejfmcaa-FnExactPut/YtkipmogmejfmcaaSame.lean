/-
  OWN WORK. Same: both contracts at one function.
-/
import Derived.Test.YtkipmogmejfmcaaSSame
import Derived.Test.YtkipmogmejfmcaaIdent
namespace Go.Proofs.Ytkipmogmejfmcaa
open Go.RowKit
set_option linter.unusedVariables false

/-- What Same answers. -/
def samV (ka na : Int) (fa : Nat) (sa : ByteArray) (ra : Int) (kb nb : Int) (fb : Nat) (sb : ByteArray) (rb : Int) : Bool :=
  if vok ka na fa sa ra = false ∨ vok kb nb fb sb rb = false then false
  else if (ka = 2 ∨ ka = 3) ∧ (kb = 2 ∨ kb = 3) then cmpV ka na fa sa ra kb nb fb sb rb == 0
  else sf ka na sa ra kb nb sb rb

theorem samV_sf {ka na : Int} {fa : Nat} {sa : ByteArray} {ra : Int} {kb nb : Int} {fb : Nat} {sb : ByteArray} {rb : Int} (hva : vok ka na fa sa ra = true) (hvb : vok kb nb fb sb rb = true) (hn : ¬ ((ka = 2 ∨ ka = 3) ∧ (kb = 2 ∨ kb = 3))) : samV ka na fa sa ra kb nb fb sb rb = sf ka na sa ra kb nb sb rb := by
  unfold samV; rw [if_neg (by simp [hva, hvb]), if_neg hn]

theorem bres {c d : Bool} {w : World} {g : FuncId} {ags : Array Value} (h : Calls Try.prog g ags w fun e w' => e = .returned (.bool c) ∧ Below w.heap.size w w') (hu : d = c) : Calls Try.prog g ags w fun e w' => e = .returned (.bool d) ∧ Below w.heap.size w w' := by rw [hu]; exact h
theorem bres0 {c d : Bool} {w : World} {g : FuncId} {ags : Array Value} (h : Calls Try.prog g ags w fun e w' => e = .returned (.bool c) ∧ w' = w) (hu : d = c) : Calls Try.prog g ags w fun e w' => e = .returned (.bool d) ∧ w' = w := by rw [hu]; exact h

theorem ss_any (ka na : Int) (fa : Nat) (sa : ByteArray) (ra : Int) (kb nb : Int) (fb : Nat) (sb : ByteArray) (rb : Int) (w : World) (hsa : sa.size ≤ maxLen) (hsb : sb.size ≤ maxLen) (hfa : fa < 18446744073709551616) (hfb : fb < 18446744073709551616) :
    Calls Try.prog 28 #[VV ka na fa sa ra, VV kb nb fb sb rb] w fun e w' => e = .returned (.bool (samV ka na fa sa ra kb nb fb sb rb)) ∧ Below w.heap.size w w' := by
  by_cases hva : vok ka na fa sa ra = false
  · exact bres (ss_bad1 ka na fa sa ra kb nb fb sb rb w hsa hsb hva) (by simp [samV, hva])
  replace hva : vok ka na fa sa ra = true := by simpa using hva
  by_cases hvb : vok kb nb fb sb rb = false
  · exact bres (ss_bad2 ka na fa sa ra kb nb fb sb rb w hsa hsb hva hvb) (by simp [samV, hvb])
  replace hvb : vok kb nb fb sb rb = true := by simpa using hvb
  by_cases a2 : ka = 2
  · subst a2
    by_cases b2 : kb = 2
    · subst b2; exact bres (ss_22 na fa sa ra nb fb sb rb w hsa hsb hva hvb hfa hfb) (by simp [samV, hva, hvb])
    · by_cases b3 : kb = 3
      · subst b3; exact bres (ss_23 na fa sa ra nb fb sb rb w hsa hsb hva hvb hfa hfb) (by simp [samV, hva, hvb])
      · exact bres (ss_no2 na fa sa ra kb nb fb sb rb w hsa hsb hva hvb (by simpa using b2) (by simpa using b3)) (by simp [samV, hva, hvb, b2, b3])
  · by_cases a3 : ka = 3
    · subst a3
      by_cases b2 : kb = 2
      · subst b2; exact bres (ss_32 na fa sa ra nb fb sb rb w hsa hsb hva hvb hfa hfb) (by simp [samV, hva, hvb])
      · by_cases b3 : kb = 3
        · subst b3; exact bres (ss_33 na fa sa ra nb fb sb rb w hsa hsb hva hvb hfa hfb) (by simp [samV, hva, hvb])
        · exact bres (ss_no3 na fa sa ra kb nb fb sb rb w hsa hsb hva hvb (by simpa using b2) (by simpa using b3)) (by simp [samV, hva, hvb, b2, b3])
    · exact bres (ss_no ka na fa sa ra kb nb fb sb rb w hsa hsb hva hvb (by simpa using a2) (by simpa using a3)) (by simp [samV, hva, hvb, a2, a3])

/-! What validity says of the fields that are not used. -/
theorem u0 {n : Int} {f : Nat} {s : ByteArray} {r : Int} (h : vok 0 n f s r = true) : n = 0 ∧ s.toList = [] ∧ r = 0 := by simp [vok, zr] at h; exact ⟨h.1.1.1, h.1.2, h.2⟩
theorem u1 {n : Int} {f : Nat} {s : ByteArray} {r : Int} (h : vok 1 n f s r = true) : (n = 0 ∨ n = 1) ∧ s.toList = [] ∧ r = 0 := by simp [vok, zr] at h; exact ⟨h.2, h.1.1.2, h.1.2⟩
theorem u4 {n : Int} {f : Nat} {s : ByteArray} {r : Int} (h : vok 4 n f s r = true) : n = 0 ∧ r = 0 := by simp [vok, zr] at h; exact ⟨h.1.1.1, h.1.2⟩
theorem u5 {n : Int} {f : Nat} {s : ByteArray} {r : Int} (h : vok 5 n f s r = true) : n = 0 ∧ s.toList = [] := by simp [vok, zr] at h; exact ⟨h.1.1.1, h.1.2⟩
theorem u6 {n : Int} {f : Nat} {s : ByteArray} {r : Int} (h : vok 6 n f s r = true) : n = 0 ∧ s.toList = [] := by simp [vok, zr] at h; exact ⟨h.1.1.1, h.1.2⟩
theorem u7 {n : Int} {f : Nat} {s : ByteArray} {r : Int} (h : vok 7 n f s r = true) : n = 0 ∧ s.toList = [] := by simp [vok, zr] at h; exact ⟨h.1.1.1, h.1.2⟩
theorem u8 {n : Int} {f : Nat} {s : ByteArray} {r : Int} (h : vok 8 n f s r = true) : s.toList = [] ∧ r = 0 := by simp [vok, zr] at h; exact ⟨h.1.1.1.2, h.1.1.2⟩

theorem scmp_zero (a b : ByteArray) : (scmp a.data.toList b.data.toList == 0) = (a.toList == b.toList) := by
  rw [ByteArray.toList_eq, ByteArray.toList_eq]
  by_cases h : a.data.toList = b.data.toList
  · rw [(scmp_eq _ _).1 h, h]; simp
  · have : scmp a.data.toList b.data.toList ≠ 0 := fun q => h ((scmp_eq _ _).2 q)
    have h1 : (scmp a.data.toList b.data.toList == 0) = false := by simpa using this
    have h2 : (a.data.toList == b.data.toList) = false := by simpa using h
    rw [h1, h2]

theorem ocmp_ne (o : Option Ordering) : ocmp o ≠ 3 := by rcases o with _ | _ | _ | _ <;> simp [ocmp]
theorem ncmp_ne (a b : Int) : ncmp a b ≠ 3 := by unfold ncmp; repeat' split
                                                 all_goals simp

theorem st_any (ka na : Int) (fa : Nat) (sa : ByteArray) (ra : Int) (kb nb : Int) (fb : Nat) (sb : ByteArray) (rb : Int) (w : World) (hfa : fa < 18446744073709551616) (hfb : fb < 18446744073709551616) :
    Calls Try.prog 64 #[tmV ka na fa sa ra, tmV kb nb fb sb rb] w fun e w' => e = .returned (.bool (samV ka na fa sa ra kb nb fb sb rb)) ∧ w' = w := by
  have hct := fun w => ct_any ka na fa sa ra kb nb fb sb rb w hfa hfb
  by_cases hva : vok ka na fa sa ra = false
  · have hc : cmpV ka na fa sa ra kb nb fb sb rb = 3 := by simp [cmpV, hva]
    rw [hc, tm_nil hva] at hct
    rw [tm_nil hva]; exact bres0 (st_none _ w hct) (by simp [samV, hva])
  replace hva : vok ka na fa sa ra = true := by simpa using hva
  by_cases hvb : vok kb nb fb sb rb = false
  · have hc : cmpV ka na fa sa ra kb nb fb sb rb = 3 := by simp [cmpV, hvb]
    have hs : samV ka na fa sa ra kb nb fb sb rb = false := by simp [samV, hvb]
    rw [hs]
    rw [hc, tm_nil hvb] at hct
    rw [tm_nil hvb]
    rcases vok_kind hva with rfl | rfl | rfl | rfl | rfl | rfl | rfl | rfl | rfl
    · rw [tm0 hva] at hct ⊢; exact st_3 _ _ _ w _ hct (ie_nil_none _)
    · rw [tm1 hva] at hct ⊢; exact st_3 _ _ _ w _ hct (ie_bool_none _)
    · rw [tm2 hva] at hct ⊢; exact st_3 _ _ _ w _ hct (ie_int_none _)
    · rw [tm3 hva] at hct ⊢; exact st_3 _ _ _ w _ hct (ie_flt_none _)
    · rw [tm4 hva] at hct ⊢; exact st_3 _ _ _ w _ hct (ie_str_none _)
    · rw [tm5 hva] at hct ⊢; exact st_3 _ _ _ w _ hct (ie_ref_none _)
    · rw [tm6 hva] at hct ⊢; exact st_3 _ _ _ w _ hct (ie_ref_none _)
    · rw [tm7 hva] at hct ⊢; exact st_3 _ _ _ w _ hct (ie_ref_none _)
    · rw [tm8 hva] at hct ⊢; exact st_3 _ _ _ w _ hct (ie_builtin_none _)
  replace hvb : vok kb nb fb sb rb = true := by simpa using hvb
  by_cases h3 : cmpV ka na fa sa ra kb nb fb sb rb = 3
  · rw [h3] at hct
    rcases vok_kind hva with rfl | rfl | rfl | rfl | rfl | rfl | rfl | rfl | rfl
    · rw [tm0 hva] at hct ⊢
      rcases vok_kind hvb with rfl | rfl | rfl | rfl | rfl | rfl | rfl | rfl | rfl
      · rw [tm0 hvb] at hct ⊢; obtain ⟨p1, p2, p3⟩ := u0 hva; obtain ⟨q1, q2, q3⟩ := u0 hvb; exact bres0 (st_3 _ _ _ w _ hct ie_nil_nil) (by rw [samV_sf hva hvb (by omega)]; simp [sf, p1, p2, p3, q1, q2, q3])
      · rw [tm1 hvb] at hct ⊢; exact bres0 (st_3 _ _ _ w _ hct (ie_nil_bool _ _)) (by simp [samV, sf])
      · rw [tm2 hvb] at hct ⊢; exact bres0 (st_3 _ _ _ w _ hct (ie_nil_int _ _)) (by simp [samV, sf])
      · rw [tm3 hvb] at hct ⊢; exact bres0 (st_3 _ _ _ w _ hct (ie_nil_flt _ _)) (by simp [samV, sf])
      · rw [tm4 hvb] at hct ⊢; exact bres0 (st_3 _ _ _ w _ hct (ie_nil_str _ _)) (by simp [samV, sf])
      · rw [tm5 hvb] at hct ⊢; exact bres0 (st_3 _ _ _ w _ hct (ie_nil_ref _ _)) (by simp [samV, sf])
      · rw [tm6 hvb] at hct ⊢; exact bres0 (st_3 _ _ _ w _ hct (ie_nil_ref _ _)) (by simp [samV, sf])
      · rw [tm7 hvb] at hct ⊢; exact bres0 (st_3 _ _ _ w _ hct (ie_nil_ref _ _)) (by simp [samV, sf])
      · rw [tm8 hvb] at hct ⊢; exact bres0 (st_3 _ _ _ w _ hct (ie_nil_builtin _ _)) (by simp [samV, sf])
    · rw [tm1 hva] at hct ⊢
      rcases vok_kind hvb with rfl | rfl | rfl | rfl | rfl | rfl | rfl | rfl | rfl
      · rw [tm0 hvb] at hct ⊢; exact bres0 (st_3 _ _ _ w _ hct (ie_bool_nil _ _)) (by simp [samV, sf])
      · rw [tm1 hvb] at hct ⊢
        refine bres0 (st_3 _ _ _ w _ hct (ie_bool_bool _ _)) ?_
        have hs : samV 1 na fa sa ra 1 nb fb sb rb = sf 1 na sa ra 1 nb sb rb := by simp [samV, hva, hvb]
        obtain ⟨p1, p2, p3⟩ := u1 hva
        obtain ⟨q1, q2, q3⟩ := u1 hvb
        rw [hs]
        rcases p1 with rfl | rfl <;> rcases q1 with rfl | rfl <;> simp [sf, p2, p3, q2, q3]
      · rw [tm2 hvb] at hct ⊢; exact bres0 (st_3 _ _ _ w _ hct (ie_bool_int _ _)) (by simp [samV, sf])
      · rw [tm3 hvb] at hct ⊢; exact bres0 (st_3 _ _ _ w _ hct (ie_bool_flt _ _)) (by simp [samV, sf])
      · rw [tm4 hvb] at hct ⊢; exact bres0 (st_3 _ _ _ w _ hct (ie_bool_str _ _)) (by simp [samV, sf])
      · rw [tm5 hvb] at hct ⊢; exact bres0 (st_3 _ _ _ w _ hct (ie_bool_ref _ _)) (by simp [samV, sf])
      · rw [tm6 hvb] at hct ⊢; exact bres0 (st_3 _ _ _ w _ hct (ie_bool_ref _ _)) (by simp [samV, sf])
      · rw [tm7 hvb] at hct ⊢; exact bres0 (st_3 _ _ _ w _ hct (ie_bool_ref _ _)) (by simp [samV, sf])
      · rw [tm8 hvb] at hct ⊢; exact bres0 (st_3 _ _ _ w _ hct (ie_bool_builtin _ _)) (by simp [samV, sf])
    · rw [tm2 hva] at hct ⊢
      rcases vok_kind hvb with rfl | rfl | rfl | rfl | rfl | rfl | rfl | rfl | rfl
      · rw [tm0 hvb] at hct ⊢; exact bres0 (st_3 _ _ _ w _ hct (ie_int_nil _ _)) (by simp [samV, sf])
      · rw [tm1 hvb] at hct ⊢; exact bres0 (st_3 _ _ _ w _ hct (ie_int_bool _ _)) (by simp [samV, sf])
      · exact absurd (by simpa [cmpV, hva, hvb] using h3) (ncmp_ne na nb)
      · exfalso; simp only [cmpV, hva, hvb] at h3; rcases ifc_three na fb with q | q | q <;> simp [q] at h3 <;> split at h3 <;> omega
      · rw [tm4 hvb] at hct ⊢; exact bres0 (st_3 _ _ _ w _ hct (ie_int_str _ _)) (by simp [samV, sf])
      · rw [tm5 hvb] at hct ⊢; exact bres0 (st_3 _ _ _ w _ hct (ie_int_ref _ _)) (by simp [samV, sf])
      · rw [tm6 hvb] at hct ⊢; exact bres0 (st_3 _ _ _ w _ hct (ie_int_ref _ _)) (by simp [samV, sf])
      · rw [tm7 hvb] at hct ⊢; exact bres0 (st_3 _ _ _ w _ hct (ie_int_ref _ _)) (by simp [samV, sf])
      · rw [tm8 hvb] at hct ⊢; exact bres0 (st_3 _ _ _ w _ hct (ie_int_builtin _ _)) (by simp [samV, sf])
    · rw [tm3 hva] at hct ⊢
      rcases vok_kind hvb with rfl | rfl | rfl | rfl | rfl | rfl | rfl | rfl | rfl
      · rw [tm0 hvb] at hct ⊢; exact bres0 (st_3 _ _ _ w _ hct (ie_flt_nil _ _)) (by simp [samV, sf])
      · rw [tm1 hvb] at hct ⊢; exact bres0 (st_3 _ _ _ w _ hct (ie_flt_bool _ _)) (by simp [samV, sf])
      · exfalso; simp only [cmpV, hva, hvb] at h3; rcases ifc_three nb fa with q | q | q <;> simp [q] at h3 <;> split at h3 <;> omega
      · exact absurd (by simpa [cmpV, hva, hvb] using h3) (ocmp_ne _)
      · rw [tm4 hvb] at hct ⊢; exact bres0 (st_3 _ _ _ w _ hct (ie_flt_str _ _)) (by simp [samV, sf])
      · rw [tm5 hvb] at hct ⊢; exact bres0 (st_3 _ _ _ w _ hct (ie_flt_ref _ _)) (by simp [samV, sf])
      · rw [tm6 hvb] at hct ⊢; exact bres0 (st_3 _ _ _ w _ hct (ie_flt_ref _ _)) (by simp [samV, sf])
      · rw [tm7 hvb] at hct ⊢; exact bres0 (st_3 _ _ _ w _ hct (ie_flt_ref _ _)) (by simp [samV, sf])
      · rw [tm8 hvb] at hct ⊢; exact bres0 (st_3 _ _ _ w _ hct (ie_flt_builtin _ _)) (by simp [samV, sf])
    · rw [tm4 hva] at hct ⊢
      rcases vok_kind hvb with rfl | rfl | rfl | rfl | rfl | rfl | rfl | rfl | rfl
      · rw [tm0 hvb] at hct ⊢; exact bres0 (st_3 _ _ _ w _ hct (ie_str_nil _ _)) (by simp [samV, sf])
      · rw [tm1 hvb] at hct ⊢; exact bres0 (st_3 _ _ _ w _ hct (ie_str_bool _ _)) (by simp [samV, sf])
      · rw [tm2 hvb] at hct ⊢; exact bres0 (st_3 _ _ _ w _ hct (ie_str_int _ _)) (by simp [samV, sf])
      · rw [tm3 hvb] at hct ⊢; exact bres0 (st_3 _ _ _ w _ hct (ie_str_flt _ _)) (by simp [samV, sf])
      · exfalso; have q : scmp sa.data.toList sb.data.toList = 3 := by simpa [cmpV, hva, hvb] using h3
        rcases scmp_three sa.data.toList sb.data.toList with h | h | h <;> omega
      · rw [tm5 hvb] at hct ⊢; exact bres0 (st_3 _ _ _ w _ hct (ie_str_ref _ _)) (by simp [samV, sf])
      · rw [tm6 hvb] at hct ⊢; exact bres0 (st_3 _ _ _ w _ hct (ie_str_ref _ _)) (by simp [samV, sf])
      · rw [tm7 hvb] at hct ⊢; exact bres0 (st_3 _ _ _ w _ hct (ie_str_ref _ _)) (by simp [samV, sf])
      · rw [tm8 hvb] at hct ⊢; exact bres0 (st_3 _ _ _ w _ hct (ie_str_builtin _ _)) (by simp [samV, sf])
    · rw [tm5 hva] at hct ⊢
      rcases vok_kind hvb with rfl | rfl | rfl | rfl | rfl | rfl | rfl | rfl | rfl
      · rw [tm0 hvb] at hct ⊢; exact bres0 (st_3 _ _ _ w _ hct (ie_ref_nil _ _)) (by simp [samV, sf])
      · rw [tm1 hvb] at hct ⊢; exact bres0 (st_3 _ _ _ w _ hct (ie_ref_bool _ _)) (by simp [samV, sf])
      · rw [tm2 hvb] at hct ⊢; exact bres0 (st_3 _ _ _ w _ hct (ie_ref_int _ _)) (by simp [samV, sf])
      · rw [tm3 hvb] at hct ⊢; exact bres0 (st_3 _ _ _ w _ hct (ie_ref_flt _ _)) (by simp [samV, sf])
      · rw [tm4 hvb] at hct ⊢; exact bres0 (st_3 _ _ _ w _ hct (ie_ref_str _ _)) (by simp [samV, sf])
      · rw [tm5 hvb] at hct ⊢; obtain ⟨p1, p2⟩ := u5 hva; obtain ⟨q1, q2⟩ := u5 hvb; exact bres0 (st_3 _ _ _ w _ hct (ie_ref_ref _ _ _ _)) (by rw [samV_sf hva hvb (by omega)]; simp [sf, p1, p2, q1, q2])
      · rw [tm6 hvb] at hct ⊢; obtain ⟨p1, p2⟩ := u5 hva; obtain ⟨q1, q2⟩ := u6 hvb; exact bres0 (st_3 _ _ _ w _ hct (ie_ref_ref _ _ _ _)) (by rw [samV_sf hva hvb (by omega)]; simp [sf, p1, p2, q1, q2])
      · rw [tm7 hvb] at hct ⊢; obtain ⟨p1, p2⟩ := u5 hva; obtain ⟨q1, q2⟩ := u7 hvb; exact bres0 (st_3 _ _ _ w _ hct (ie_ref_ref _ _ _ _)) (by rw [samV_sf hva hvb (by omega)]; simp [sf, p1, p2, q1, q2])
      · rw [tm8 hvb] at hct ⊢; exact bres0 (st_3 _ _ _ w _ hct (ie_ref_builtin _ _)) (by simp [samV, sf])
    · rw [tm6 hva] at hct ⊢
      rcases vok_kind hvb with rfl | rfl | rfl | rfl | rfl | rfl | rfl | rfl | rfl
      · rw [tm0 hvb] at hct ⊢; exact bres0 (st_3 _ _ _ w _ hct (ie_ref_nil _ _)) (by simp [samV, sf])
      · rw [tm1 hvb] at hct ⊢; exact bres0 (st_3 _ _ _ w _ hct (ie_ref_bool _ _)) (by simp [samV, sf])
      · rw [tm2 hvb] at hct ⊢; exact bres0 (st_3 _ _ _ w _ hct (ie_ref_int _ _)) (by simp [samV, sf])
      · rw [tm3 hvb] at hct ⊢; exact bres0 (st_3 _ _ _ w _ hct (ie_ref_flt _ _)) (by simp [samV, sf])
      · rw [tm4 hvb] at hct ⊢; exact bres0 (st_3 _ _ _ w _ hct (ie_ref_str _ _)) (by simp [samV, sf])
      · rw [tm5 hvb] at hct ⊢; obtain ⟨p1, p2⟩ := u6 hva; obtain ⟨q1, q2⟩ := u5 hvb; exact bres0 (st_3 _ _ _ w _ hct (ie_ref_ref _ _ _ _)) (by rw [samV_sf hva hvb (by omega)]; simp [sf, p1, p2, q1, q2])
      · rw [tm6 hvb] at hct ⊢; obtain ⟨p1, p2⟩ := u6 hva; obtain ⟨q1, q2⟩ := u6 hvb; exact bres0 (st_3 _ _ _ w _ hct (ie_ref_ref _ _ _ _)) (by rw [samV_sf hva hvb (by omega)]; simp [sf, p1, p2, q1, q2])
      · rw [tm7 hvb] at hct ⊢; obtain ⟨p1, p2⟩ := u6 hva; obtain ⟨q1, q2⟩ := u7 hvb; exact bres0 (st_3 _ _ _ w _ hct (ie_ref_ref _ _ _ _)) (by rw [samV_sf hva hvb (by omega)]; simp [sf, p1, p2, q1, q2])
      · rw [tm8 hvb] at hct ⊢; exact bres0 (st_3 _ _ _ w _ hct (ie_ref_builtin _ _)) (by simp [samV, sf])
    · rw [tm7 hva] at hct ⊢
      rcases vok_kind hvb with rfl | rfl | rfl | rfl | rfl | rfl | rfl | rfl | rfl
      · rw [tm0 hvb] at hct ⊢; exact bres0 (st_3 _ _ _ w _ hct (ie_ref_nil _ _)) (by simp [samV, sf])
      · rw [tm1 hvb] at hct ⊢; exact bres0 (st_3 _ _ _ w _ hct (ie_ref_bool _ _)) (by simp [samV, sf])
      · rw [tm2 hvb] at hct ⊢; exact bres0 (st_3 _ _ _ w _ hct (ie_ref_int _ _)) (by simp [samV, sf])
      · rw [tm3 hvb] at hct ⊢; exact bres0 (st_3 _ _ _ w _ hct (ie_ref_flt _ _)) (by simp [samV, sf])
      · rw [tm4 hvb] at hct ⊢; exact bres0 (st_3 _ _ _ w _ hct (ie_ref_str _ _)) (by simp [samV, sf])
      · rw [tm5 hvb] at hct ⊢; obtain ⟨p1, p2⟩ := u7 hva; obtain ⟨q1, q2⟩ := u5 hvb; exact bres0 (st_3 _ _ _ w _ hct (ie_ref_ref _ _ _ _)) (by rw [samV_sf hva hvb (by omega)]; simp [sf, p1, p2, q1, q2])
      · rw [tm6 hvb] at hct ⊢; obtain ⟨p1, p2⟩ := u7 hva; obtain ⟨q1, q2⟩ := u6 hvb; exact bres0 (st_3 _ _ _ w _ hct (ie_ref_ref _ _ _ _)) (by rw [samV_sf hva hvb (by omega)]; simp [sf, p1, p2, q1, q2])
      · rw [tm7 hvb] at hct ⊢; obtain ⟨p1, p2⟩ := u7 hva; obtain ⟨q1, q2⟩ := u7 hvb; exact bres0 (st_3 _ _ _ w _ hct (ie_ref_ref _ _ _ _)) (by rw [samV_sf hva hvb (by omega)]; simp [sf, p1, p2, q1, q2])
      · rw [tm8 hvb] at hct ⊢; exact bres0 (st_3 _ _ _ w _ hct (ie_ref_builtin _ _)) (by simp [samV, sf])
    · rw [tm8 hva] at hct ⊢
      rcases vok_kind hvb with rfl | rfl | rfl | rfl | rfl | rfl | rfl | rfl | rfl
      · rw [tm0 hvb] at hct ⊢; exact bres0 (st_3 _ _ _ w _ hct (ie_builtin_nil _ _)) (by simp [samV, sf])
      · rw [tm1 hvb] at hct ⊢; exact bres0 (st_3 _ _ _ w _ hct (ie_builtin_bool _ _)) (by simp [samV, sf])
      · rw [tm2 hvb] at hct ⊢; exact bres0 (st_3 _ _ _ w _ hct (ie_builtin_int _ _)) (by simp [samV, sf])
      · rw [tm3 hvb] at hct ⊢; exact bres0 (st_3 _ _ _ w _ hct (ie_builtin_flt _ _)) (by simp [samV, sf])
      · rw [tm4 hvb] at hct ⊢; exact bres0 (st_3 _ _ _ w _ hct (ie_builtin_str _ _)) (by simp [samV, sf])
      · rw [tm5 hvb] at hct ⊢; exact bres0 (st_3 _ _ _ w _ hct (ie_builtin_ref _ _)) (by simp [samV, sf])
      · rw [tm6 hvb] at hct ⊢; exact bres0 (st_3 _ _ _ w _ hct (ie_builtin_ref _ _)) (by simp [samV, sf])
      · rw [tm7 hvb] at hct ⊢; exact bres0 (st_3 _ _ _ w _ hct (ie_builtin_ref _ _)) (by simp [samV, sf])
      · rw [tm8 hvb] at hct ⊢; obtain ⟨p2, p3⟩ := u8 hva; obtain ⟨q2, q3⟩ := u8 hvb; exact bres0 (st_3 _ _ _ w _ hct (ie_builtin_builtin _ _)) (by rw [samV_sf hva hvb (by omega)]; simp [sf, p2, p3, q2, q3])
  · refine bres0 (st_c _ _ w _ (by simpa using h3) hct) ?_
    by_cases hn : (ka = 2 ∨ ka = 3) ∧ (kb = 2 ∨ kb = 3)
    · unfold samV; rw [if_neg (by simp [hva, hvb]), if_pos hn]
    · by_cases h4 : ka = 4 ∧ kb = 4
      · obtain ⟨rfl, rfl⟩ := h4
        obtain ⟨p1, p2⟩ := u4 hva
        obtain ⟨q1, q2⟩ := u4 hvb
        have hc : cmpV 4 na fa sa ra 4 nb fb sb rb = scmp sa.data.toList sb.data.toList := by simp [cmpV, hva, hvb]
        have hs : samV 4 na fa sa ra 4 nb fb sb rb = sf 4 na sa ra 4 nb sb rb := by simp [samV, hva, hvb]
        rw [hc, hs, scmp_zero]
        simp [sf, p1, p2, q1, q2]
      · exfalso; apply h3
        unfold cmpV
        rw [if_neg (by simp [hva, hvb]), if_neg h4, if_neg (by omega), if_neg (by omega), if_neg (by omega), if_neg (by omega)]
end Go.Proofs.Ytkipmogmejfmcaa
