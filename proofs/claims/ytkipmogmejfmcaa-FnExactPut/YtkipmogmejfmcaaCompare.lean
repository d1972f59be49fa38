/-
  OWN WORK. Compare: both contracts at one function.
-/
import Derived.Test.YtkipmogmejfmcaaSCmp
import Derived.Test.YtkipmogmejfmcaaICmp
import Derived.Test.YtkipmogmejfmcaaTruth
namespace Go.Proofs.Ytkipmogmejfmcaa
open Go.RowKit
set_option linter.unusedVariables false

/-- What Compare answers. -/
def cmpV (ka na : Int) (fa : Nat) (sa : ByteArray) (ra : Int) (kb nb : Int) (fb : Nat) (sb : ByteArray) (rb : Int) : Int :=
  if vok ka na fa sa ra = false ∨ vok kb nb fb sb rb = false then 3
  else if ka = 4 ∧ kb = 4 then scmp sa.data.toList sb.data.toList
  else if ka = 2 ∧ kb = 2 then ncmp na nb
  else if ka = 2 ∧ kb = 3 then (if FloatKind.f64.format.order fb fb = some .eq then ifc na fb else 2)
  else if ka = 3 ∧ kb = 2 then (if FloatKind.f64.format.order fa fa = some .eq then -(ifc nb fa) else 2)
  else if ka = 3 ∧ kb = 3 then ocmp (FloatKind.f64.format.order fa fb)
  else 3

theorem order_none_r {y : Nat} (hy : y < 18446744073709551616) (x : Nat) (h : FloatKind.f64.format.order y y ≠ some .eq) : FloatKind.f64.format.order x y = none := by
  rcases Fl.read_cases y hy with ⟨s, M, L, hc, hw, hr⟩ | ⟨s, hr⟩ | ⟨s, t, hr⟩
  · exact absurd (by rw [Fl.order_wd hr hr, Int.compare_eq_eq.2 rfl]) h
  · exfalso; apply h
    show (Ieee.double.read y).order (Ieee.double.read y) = _
    rw [hr]; cases s <;> rfl
  · show (Ieee.double.read x).order (Ieee.double.read y) = _
    rw [hr]; cases Ieee.double.read x <;> rfl

theorem order_some {x y : Nat} (hx : x < 18446744073709551616) (hy : y < 18446744073709551616) (h1 : FloatKind.f64.format.order x x = some .eq) (h2 : FloatKind.f64.format.order y y = some .eq) : FloatKind.f64.format.order x y ≠ none := by
  intro hn
  rcases Fl.read_cases y hy with ⟨s, M, L, hc, hw, hr⟩ | ⟨s, hr⟩ | ⟨s, t, hr⟩
  · rcases ord_of hx h1 hr with h | h | h <;> rw [h] at hn <;> cases hn
  · rcases Fl.read_cases x hx with ⟨s', M, L, hc, hw, hr'⟩ | ⟨s', hr'⟩ | ⟨s', t, hr'⟩
    · have : (Ieee.double.read x).order (Ieee.double.read y) = none := hn
      rw [hr, hr'] at this; cases this
    · have : (Ieee.double.read x).order (Ieee.double.read y) = none := hn
      rw [hr, hr'] at this; cases this
    · have : FloatKind.f64.format.order x x = none := by
        show (Ieee.double.read x).order (Ieee.double.read x) = _
        rw [hr']; rfl
      rw [this] at h1; cases h1
  · have : FloatKind.f64.format.order y y = none := by
      show (Ieee.double.read y).order (Ieee.double.read y) = _
      rw [hr]; rfl
    rw [this] at h2; cases h2

theorem cres {c d : Int} {w : World} {g : FuncId} {ags : Array Value} (h : Calls Try.prog g ags w fun e w' => e = .returned (.int .i64 c) ∧ Below w.heap.size w w') (hu : d = c) : Calls Try.prog g ags w fun e w' => e = .returned (.int .i64 d) ∧ Below w.heap.size w w' := by rw [hu]; exact h

theorem nan_none {x : Nat} (hx : x < 18446744073709551616) (h : ¬ FloatKind.f64.format.order x x = some .eq) : FloatKind.f64.format.order x x = none := order_none hx x h

theorem sc_any (ka na : Int) (fa : Nat) (sa : ByteArray) (ra : Int) (kb nb : Int) (fb : Nat) (sb : ByteArray) (rb : Int) (w : World) (hsa : sa.size ≤ maxLen) (hsb : sb.size ≤ maxLen) (hfa : fa < 18446744073709551616) (hfb : fb < 18446744073709551616) :
    Calls Try.prog 26 #[VV ka na fa sa ra, VV kb nb fb sb rb] w fun e w' => e = .returned (.int .i64 (cmpV ka na fa sa ra kb nb fb sb rb)) ∧ Below w.heap.size w w' := by
  by_cases hva : vok ka na fa sa ra = false
  · exact cres (sc_bad1 ka na fa sa ra kb nb fb sb rb w hsa hsb hva) (by simp [cmpV, hva])
  replace hva : vok ka na fa sa ra = true := by simpa using hva
  by_cases hvb : vok kb nb fb sb rb = false
  · exact cres (sc_bad2 ka na fa sa ra kb nb fb sb rb w hsa hsb hva hvb) (by simp [cmpV, hvb])
  replace hvb : vok kb nb fb sb rb = true := by simpa using hvb
  by_cases a4 : ka = 4
  · subst a4
    by_cases b4 : kb = 4
    · subst b4; exact cres (sc_str na fa sa ra nb fb sb rb w hsa hsb hva hvb) (by simp [cmpV, hva, hvb])
    · exact cres (sc_n1 na fa sa ra kb nb fb sb rb w hsa hsb hva hvb (by simpa using b4)) (by simp [cmpV, hva, hvb, b4])
  by_cases a2 : ka = 2
  · subst a2
    by_cases b2 : kb = 2
    · subst b2
      by_cases h : na < nb
      · exact cres (sc_ii_a na fa sa ra nb fb sb rb w hsa hsb hva hvb h) (by simp [cmpV, hva, hvb, ncmp, h])
      · by_cases h' : nb < na
        · exact cres (sc_ii_b na fa sa ra nb fb sb rb w hsa hsb hva hvb h') (by simp [cmpV, hva, hvb, ncmp, h, h'])
        · exact cres (sc_ii_c na fa sa ra nb fb sb rb w hsa hsb hva hvb h h') (by simp [cmpV, hva, hvb, ncmp, h, h'])
    · by_cases b3 : kb = 3
      · subst b3
        by_cases h1 : FloatKind.f64.format.order fb fb = some .eq
        · exact cres (sc_if na fa sa ra nb fb sb rb w hsa hsb hva hvb hfb h1) (by simp [cmpV, hva, hvb, h1])
        · exact cres (sc_if_nan na fa sa ra nb fb sb rb w hsa hsb hva hvb (nan_none hfb h1)) (by simp [cmpV, hva, hvb, h1])
      · exact cres (sc_n3_2 na fa sa ra kb nb fb sb rb w hsa hsb hva hvb (by simpa using b2) (by simpa using b3)) (by simp [cmpV, hva, hvb, b2, b3])
  by_cases a3 : ka = 3
  · subst a3
    by_cases b2 : kb = 2
    · subst b2
      by_cases h1 : FloatKind.f64.format.order fa fa = some .eq
      · rcases ifc_three nb fa with h | h | h
        · exact cres (sc_fi_m1 na fa sa ra nb fb sb rb w hsa hsb hva hvb hfa h1 h) (by simp [cmpV, hva, hvb, h1, h])
        · exact cres (sc_fi_0 na fa sa ra nb fb sb rb w hsa hsb hva hvb hfa h1 h) (by simp [cmpV, hva, hvb, h1, h])
        · exact cres (sc_fi_1 na fa sa ra nb fb sb rb w hsa hsb hva hvb hfa h1 h) (by simp [cmpV, hva, hvb, h1, h])
      · exact cres (sc_fi_nan na fa sa ra nb fb sb rb w hsa hsb hva hvb (nan_none hfa h1)) (by simp [cmpV, hva, hvb, h1])
    · by_cases b3 : kb = 3
      · subst b3
        by_cases h1 : FloatKind.f64.format.order fa fa = some .eq
        · by_cases h2 : FloatKind.f64.format.order fb fb = some .eq
          · rcases h3 : FloatKind.f64.format.order fa fb with _ | _ | _ | _
            · exact absurd h3 (order_some hfa hfb h1 h2)
            · exact cres (sc_ff_lt na fa sa ra nb fb sb rb w hsa hsb hva hvb h1 h2 h3) (by simp [cmpV, hva, hvb, h3, ocmp])
            · exact cres (sc_ff_eq na fa sa ra nb fb sb rb w hsa hsb hva hvb h1 h2 h3) (by simp [cmpV, hva, hvb, h3, ocmp])
            · exact cres (sc_ff_gt na fa sa ra nb fb sb rb w hsa hsb hva hvb h1 h2 h3) (by simp [cmpV, hva, hvb, h3, ocmp])
          · exact cres (sc_ff_nan2 na fa sa ra nb fb sb rb w hsa hsb hva hvb h1 (nan_none hfb h2)) (by simp [cmpV, hva, hvb, order_none_r hfb fa h2, ocmp])
        · exact cres (sc_ff_nan1 na fa sa ra nb fb sb rb w hsa hsb hva hvb (nan_none hfa h1)) (by simp [cmpV, hva, hvb, order_none hfa fb h1, ocmp])
      · exact cres (sc_n3_3 na fa sa ra kb nb fb sb rb w hsa hsb hva hvb (by simpa using b2) (by simpa using b3)) (by simp [cmpV, hva, hvb, b2, b3])
  · exact cres (sc_n2 ka na fa sa ra kb nb fb sb rb w hsa hsb hva hvb (by simpa using a2) (by simpa using a3) (by simpa using a4)) (by simp [cmpV, hva, hvb, a2, a3, a4])

theorem ct_any (ka na : Int) (fa : Nat) (sa : ByteArray) (ra : Int) (kb nb : Int) (fb : Nat) (sb : ByteArray) (rb : Int) (w : World) (hfa : fa < 18446744073709551616) (hfb : fb < 18446744073709551616) :
    Calls Try.prog 63 #[tmV ka na fa sa ra, tmV kb nb fb sb rb] w fun e w' => e = .returned (.int .i64 (cmpV ka na fa sa ra kb nb fb sb rb)) ∧ w' = w := by
  by_cases hva : vok ka na fa sa ra = false
  · rw [tm_nil hva]; exact ires (ct_x_none _ w) (by simp [cmpV, hva])
  replace hva : vok ka na fa sa ra = true := by simpa using hva
  rcases vok_kind hva with rfl | rfl | rfl | rfl | rfl | rfl | rfl | rfl | rfl
  · rw [tm0 hva]; exact ires (ct_x_nil _ _ w) (by simp [cmpV])
  · rw [tm1 hva]; exact ires (ct_x_bool _ _ w) (by simp [cmpV])
  · rw [tm2 hva]
    by_cases hvb : vok kb nb fb sb rb = false
    · rw [tm_nil hvb]; exact ires (ct_int_none _ w) (by simp [cmpV, hvb])
    replace hvb : vok kb nb fb sb rb = true := by simpa using hvb
    rcases vok_kind hvb with rfl | rfl | rfl | rfl | rfl | rfl | rfl | rfl | rfl
    · rw [tm0 hvb]; exact ires (ct_int_nil _ _ w) (by simp [cmpV])
    · rw [tm1 hvb]; exact ires (ct_int_bool _ _ w) (by simp [cmpV])
    · rw [tm2 hvb]; exact ires (ct_ii _ _ w) (by simp [cmpV, hva, hvb])
    · rw [tm3 hvb]
      by_cases h1 : FloatKind.f64.format.order fb fb = some .eq
      · exact ires (ct_if _ _ w _ (fun w => iif_any na fb w hfb h1)) (by simp [cmpV, hva, hvb, h1])
      · exact ires (ct_if _ _ w _ (fun w => iif_nan na fb w hfb (nan_none hfb h1))) (by simp [cmpV, hva, hvb, h1])
    · rw [tm4 hvb]; exact ires (ct_int_str _ _ w) (by simp [cmpV])
    · rw [tm5 hvb]; exact ires (ct_int_ref _ _ w) (by simp [cmpV])
    · rw [tm6 hvb]; exact ires (ct_int_ref _ _ w) (by simp [cmpV])
    · rw [tm7 hvb]; exact ires (ct_int_ref _ _ w) (by simp [cmpV])
    · rw [tm8 hvb]; exact ires (ct_int_builtin _ _ w) (by simp [cmpV])
  · rw [tm3 hva]
    by_cases hvb : vok kb nb fb sb rb = false
    · rw [tm_nil hvb]; exact ires (ct_flt_none _ w) (by simp [cmpV, hvb])
    replace hvb : vok kb nb fb sb rb = true := by simpa using hvb
    rcases vok_kind hvb with rfl | rfl | rfl | rfl | rfl | rfl | rfl | rfl | rfl
    · rw [tm0 hvb]; exact ires (ct_flt_nil _ _ w) (by simp [cmpV])
    · rw [tm1 hvb]; exact ires (ct_flt_bool _ _ w) (by simp [cmpV])
    · rw [tm2 hvb]
      by_cases h1 : FloatKind.f64.format.order fa fa = some .eq
      · have hq := fun w => iif_any nb fa w hfa h1
        rcases ifc_three nb fa with h | h | h
        · rw [h] at hq; exact ires (ct_fi_m1 _ _ w hq) (by simp [cmpV, hva, hvb, h1, h])
        · rw [h] at hq; exact ires (ct_fi_0 _ _ w hq) (by simp [cmpV, hva, hvb, h1, h])
        · rw [h] at hq; exact ires (ct_fi_1 _ _ w hq) (by simp [cmpV, hva, hvb, h1, h])
      · exact ires (ct_fi_2 _ _ w (fun w => iif_nan nb fa w hfa (nan_none hfa h1))) (by simp [cmpV, hva, hvb, h1])
    · rw [tm3 hvb]; exact ires (ct_ff _ _ w) (by simp [cmpV, hva, hvb])
    · rw [tm4 hvb]; exact ires (ct_flt_str _ _ w) (by simp [cmpV])
    · rw [tm5 hvb]; exact ires (ct_flt_ref _ _ w) (by simp [cmpV])
    · rw [tm6 hvb]; exact ires (ct_flt_ref _ _ w) (by simp [cmpV])
    · rw [tm7 hvb]; exact ires (ct_flt_ref _ _ w) (by simp [cmpV])
    · rw [tm8 hvb]; exact ires (ct_flt_builtin _ _ w) (by simp [cmpV])
  · rw [tm4 hva]
    by_cases hvb : vok kb nb fb sb rb = false
    · rw [tm_nil hvb]; exact ires (ct_str_none _ w) (by simp [cmpV, hvb])
    replace hvb : vok kb nb fb sb rb = true := by simpa using hvb
    rcases vok_kind hvb with rfl | rfl | rfl | rfl | rfl | rfl | rfl | rfl | rfl
    · rw [tm0 hvb]; exact ires (ct_str_nil _ _ w) (by simp [cmpV])
    · rw [tm1 hvb]; exact ires (ct_str_bool _ _ w) (by simp [cmpV])
    · rw [tm2 hvb]; exact ires (ct_str_int _ _ w) (by simp [cmpV])
    · rw [tm3 hvb]; exact ires (ct_str_flt _ _ w) (by simp [cmpV])
    · rw [tm4 hvb]; exact ires (ct_ss _ _ w) (by simp [cmpV, hva, hvb, ByteArray.toList_eq])
    · rw [tm5 hvb]; exact ires (ct_str_ref _ _ w) (by simp [cmpV])
    · rw [tm6 hvb]; exact ires (ct_str_ref _ _ w) (by simp [cmpV])
    · rw [tm7 hvb]; exact ires (ct_str_ref _ _ w) (by simp [cmpV])
    · rw [tm8 hvb]; exact ires (ct_str_builtin _ _ w) (by simp [cmpV])
  · rw [tm5 hva]; exact ires (ct_x_ref _ _ w) (by simp [cmpV])
  · rw [tm6 hva]; exact ires (ct_x_ref _ _ w) (by simp [cmpV])
  · rw [tm7 hva]; exact ires (ct_x_ref _ _ w) (by simp [cmpV])
  · rw [tm8 hva]; exact ires (ct_x_builtin _ _ w) (by simp [cmpV])
end Go.Proofs.Ytkipmogmejfmcaa
