/-
  OWN WORK. The law FnExactCompare.
-/
import Derived.Test.YtkipmogmejfmcaaICompare
namespace Go.Proofs.Ytkipmogmejfmcaa.lawCompare
open Go.ChangeShapes Go.WideShapes Go.ChangeAt Go.RowKit
attribute [local go_sem] run_store_float
set_option linter.unusedVariables false

theorem flt_lt {f : Nat} (h : (Lit.float .f64 f).wf = true) : f < 18446744073709551616 := by simpa [Lit.wf] using h

set_option maxRecDepth 20000 in
set_option maxHeartbeats 4000000 in
theorem walk (k0 n0 : Int) (f0 : Nat) (s0 : ByteArray) (r0 : Int) (k1 n1 : Int) (f1 : Nat) (s1 : ByteArray) (r1 : Int) (w : World) (hv0 : VW k0 n0 f0 s0 r0) (hv1 : VW k1 n1 f1 s1 r1) :
    Calls Try.prog 6 #[VV k0 n0 f0 s0 r0, VV k1 n1 f1 s1 r1] w fun e w' => e = .returned (.bool true) ∧ Below w.heap.size w w' := by
  obtain ⟨wk0, wn0, wf0, hs0, wr0⟩ := hv0
  obtain ⟨wk1, wn1, wf1, hs1, wr1⟩ := hv1
  have hf0 := flt_lt wf0
  have hf1 := flt_lt wf1
  clear wk0 wn0 wf0 wr0
  clear wk1 wn1 wf1 wr1
  by_cases hc0 : (1048576 : Int) - s0.size < 0
  · go_enter Try.func6, Try.ntmps6
    go_wp2_with fail
    refine (sz_no _ _ _ _ _ _ _ hs0 (by omega) (by omega) (by omega)).mono ?_
    rintro e w1 ⟨rfl, hb'⟩
    obtain ⟨hb, c00, c01, c02, c03, c04, c10, c11, c12, c13, c14⟩ := box10 hb'
    clear hb'
    go_wp2_with fail
    go_ret
    exact ⟨rfl, hb⟩
  · skip
    by_cases hc1 : (1048576 : Int) - s0.size - s1.size < 0
    · go_enter Try.func6, Try.ntmps6
      go_wp2_with fail
      refine (sz_ok _ _ _ _ _ _ _ hs0 (by omega) (by omega)).mono ?_
      rintro e w1 ⟨rfl, hb'⟩
      obtain ⟨hb, c00, c01, c02, c03, c04, c10, c11, c12, c13, c14⟩ := box10 hb'
      clear hb'
      go_wp2_with fail
      refine (sz_no _ _ _ _ _ _ _ hs1 (by omega) (by omega) (by omega)).mono ?_
      rintro e w2 ⟨rfl, hx⟩
      replace hb := hb.trans (hx.mono hb.size)
      replace c00 := cell_later hx c00; replace c01 := cell_later hx c01; replace c02 := cell_later hx c02; replace c03 := cell_later hx c03; replace c04 := cell_later hx c04; replace c10 := cell_later hx c10; replace c11 := cell_later hx c11; replace c12 := cell_later hx c12; replace c13 := cell_later hx c13; replace c14 := cell_later hx c14
      clear hx
      go_wp2_with fail
      go_ret
      exact ⟨rfl, hb⟩
    · go_enter Try.func6, Try.ntmps6
      go_wp2_with fail
      refine (sz_ok _ _ _ _ _ _ _ hs0 (by omega) (by omega)).mono ?_
      rintro e w1 ⟨rfl, hb'⟩
      obtain ⟨hb, c00, c01, c02, c03, c04, c10, c11, c12, c13, c14⟩ := box10 hb'
      clear hb'
      go_wp2_with fail
      refine (sz_ok _ _ _ _ _ _ _ hs1 (by omega) (by omega)).mono ?_
      rintro e w2 ⟨rfl, hx⟩
      replace hb := hb.trans (hx.mono hb.size)
      replace c00 := cell_later hx c00; replace c01 := cell_later hx c01; replace c02 := cell_later hx c02; replace c03 := cell_later hx c03; replace c04 := cell_later hx c04; replace c10 := cell_later hx c10; replace c11 := cell_later hx c11; replace c12 := cell_later hx c12; replace c13 := cell_later hx c13; replace c14 := cell_later hx c14
      clear hx
      go_wp2_with fail
      go_region_with (first | (go_at_call_of 17 k0; refine (to_any k0 n0 f0 s0 r0 _).mono ?_; rintro e wv0 ⟨rfl, hx⟩; (try replace hx := und hx); replace hb := hb.trans (hx.mono hb.size); replace c00 := cell_later hx c00; replace c01 := cell_later hx c01; replace c02 := cell_later hx c02; replace c03 := cell_later hx c03; replace c04 := cell_later hx c04; replace c10 := cell_later hx c10; replace c11 := cell_later hx c11; replace c12 := cell_later hx c12; replace c13 := cell_later hx c13; replace c14 := cell_later hx c14; clear hx) | (go_at_call_of 17 k1; refine (to_any k1 n1 f1 s1 r1 _).mono ?_; rintro e wv1 ⟨rfl, hx⟩; (try replace hx := und hx); replace hb := hb.trans (hx.mono hb.size); replace c00 := cell_later hx c00; replace c01 := cell_later hx c01; replace c02 := cell_later hx c02; replace c03 := cell_later hx c03; replace c04 := cell_later hx c04; replace c10 := cell_later hx c10; replace c11 := cell_later hx c11; replace c12 := cell_later hx c12; replace c13 := cell_later hx c13; replace c14 := cell_later hx c14; clear hx) | (go_at_call 26; refine (sc_any _ _ _ _ _ _ _ _ _ _ _ hs0 hs1 hf0 hf1).mono ?_; rintro e wc ⟨rfl, hx⟩; (try replace hx := und hx); replace hb := hb.trans (hx.mono hb.size); replace c00 := cell_later hx c00; replace c01 := cell_later hx c01; replace c02 := cell_later hx c02; replace c03 := cell_later hx c03; replace c04 := cell_later hx c04; replace c10 := cell_later hx c10; replace c11 := cell_later hx c11; replace c12 := cell_later hx c12; replace c13 := cell_later hx c13; replace c14 := cell_later hx c14; clear hx))
      all_goals
        go_wp2_with fail
        go_region_with (first | (go_at_call_of 17 k0; refine (to_any k0 n0 f0 s0 r0 _).mono ?_; rintro e wv0 ⟨rfl, hx⟩; (try replace hx := und hx); replace hb := hb.trans (hx.mono hb.size); replace c00 := cell_later hx c00; replace c01 := cell_later hx c01; replace c02 := cell_later hx c02; replace c03 := cell_later hx c03; replace c04 := cell_later hx c04; replace c10 := cell_later hx c10; replace c11 := cell_later hx c11; replace c12 := cell_later hx c12; replace c13 := cell_later hx c13; replace c14 := cell_later hx c14; clear hx) | (go_at_call_of 17 k1; refine (to_any k1 n1 f1 s1 r1 _).mono ?_; rintro e wv1 ⟨rfl, hx⟩; (try replace hx := und hx); replace hb := hb.trans (hx.mono hb.size); replace c00 := cell_later hx c00; replace c01 := cell_later hx c01; replace c02 := cell_later hx c02; replace c03 := cell_later hx c03; replace c04 := cell_later hx c04; replace c10 := cell_later hx c10; replace c11 := cell_later hx c11; replace c12 := cell_later hx c12; replace c13 := cell_later hx c13; replace c14 := cell_later hx c14; clear hx) | (go_at_call 27; refine (ic_any _ _ _ _ _ _ _ _ _ _ _ hf0 hf1).mono ?_; rintro e wc ⟨rfl, hx⟩; (try replace hx := und hx); replace hb := hb.trans (hx.mono hb.size); clear hx c00 c01 c02 c03 c04 c10 c11 c12 c13 c14))
        all_goals
          go_wp2_with fail
          go_ret
          exact ⟨rfl, hb⟩

/-! The row's step. -/
theorem own : ownKnob Try.prog.godebug = none := by kernel_rfl
theorem laidOut : laidOutB Try.prog = true := by kernel_rfl
set_option maxRecDepth 100000 in
theorem lifted (os : Os) (started : os.Started) (H : Type) (enc : TypeId × Value → H) :
    ReturnsInHanded {} Try.checked os 6 .any (Rows.fnExactCompareSpec.pre6 enc Try.prog Try.f6 Rows.fnExactCompareRow.domain false) (Rows.fnExactCompareSpec.post enc Try.prog Try.f6 false true false false) := by
  refine returnsInHanded_of_change (C := Try.checked) own started (by kernel_rfl) Try.func6
    (ChangeSpec.witness6 (enc := enc) (C := Try.checked) false ⟨#[], #[VV 0 0 0 ByteArray.empty 0, VV 0 0 0 ByteArray.empty 0], []⟩ 8 (by kernel_rfl) (by kernel_rfl) (by kernel_rfl) (by kernel_rfl)) ?_
  intro W base args ds gs before hval0 hW hcnd _
  have hval : ∀ (j : Nat) t v, Try.f6.params[j]? = some t → args[j]? = some v → Value.okWide Try.prog W .any base t v := hval0
  have hW' := hW
  obtain ⟨p, q, hA0, hV, rfl, hfz, hnd⟩ := hW
  have hA : DataW.TrodAll enc Try.prog W 0 (fun _ => true) true Try.f6.params.toList args.toList ds p := hA0
  rw [Try.params6] at hA hval
  obtain ⟨v0, vs0, d0, ds0, p0, q0, hargs, rfl, rfl, h0, r0⟩ := trodAll_cons hA
  obtain ⟨v1, vs1, d1, ds1, p1, q1, rfl, rfl, rfl, h1, r1⟩ := trodAll_cons r0
  obtain ⟨rfl, rfl, rfl⟩ := trodAll_nil r1
  obtain rfl : args = #[v0, v1] := by cases args; simp_all
  obtain ⟨rfl, rfl⟩ := trodVars_none hV
  have k0 := h0
  have lt0 : ∀ x ∈ p0, x.block < W.heap.size := by obtain ⟨m, hm⟩ := k0; exact DataW.trod_lt m _ _ _ hm
  obtain ⟨x0, x1, x2, x3, x4, y0, y1, y2, y3, y4, m, rfl, hd, hp, t0, t1, t2, t3, t4⟩ := open_agg5 Try.underlying24 (by kernel_rfl) (by kernel_rfl) (by kernel_rfl) (by kernel_rfl) (by kernel_rfl) (by kernel_rfl) (by kernel_rfl) (by kernel_rfl) (by kernel_rfl) (by kernel_rfl) (by kernel_rfl) (hval 0 24 v0 rfl rfl) h0
  obtain ⟨k_0, e0, _, wk0⟩ := DataW.trod_int Try.underlying3 t0
  obtain ⟨n_0, e1, _, wn0⟩ := DataW.trod_int Try.underlying2 t1
  obtain ⟨f_0, e2, _, wf0⟩ := trod_float Try.underlying22 t2
  obtain ⟨s_0, e3, _, ws0⟩ := DataW.trod_string Try.underlying9 t3
  obtain ⟨r_0, e4, _, wr0⟩ := DataW.trod_int Try.underlying3 t4
  simp only [List.cons.injEq, and_true] at e0 e1 e3 e4
  subst e0 e1 e2 e3 e4
  clear t0 t1 t2 t3 t4 hd hp h0
  have k1 := h1
  have lt1 : ∀ x ∈ p1, x.block < W.heap.size := by obtain ⟨m, hm⟩ := k1; exact DataW.trod_lt m _ _ _ hm
  obtain ⟨x0, x1, x2, x3, x4, y0, y1, y2, y3, y4, m, rfl, hd, hp, t0, t1, t2, t3, t4⟩ := open_agg5 Try.underlying24 (by kernel_rfl) (by kernel_rfl) (by kernel_rfl) (by kernel_rfl) (by kernel_rfl) (by kernel_rfl) (by kernel_rfl) (by kernel_rfl) (by kernel_rfl) (by kernel_rfl) (by kernel_rfl) (hval 1 24 v1 rfl rfl) h1
  obtain ⟨k_1, e0, _, wk1⟩ := DataW.trod_int Try.underlying3 t0
  obtain ⟨n_1, e1, _, wn1⟩ := DataW.trod_int Try.underlying2 t1
  obtain ⟨f_1, e2, _, wf1⟩ := trod_float Try.underlying22 t2
  obtain ⟨s_1, e3, _, ws1⟩ := DataW.trod_string Try.underlying9 t3
  obtain ⟨r_1, e4, _, wr1⟩ := DataW.trod_int Try.underlying3 t4
  simp only [List.cons.injEq, and_true] at e0 e1 e3 e4
  subst e0 e1 e2 e3 e4
  clear t0 t1 t2 t3 t4 hd hp h1
  clear hA0 hval0 hval
  refine (walk k_0 n_0 f_0 s_0 r_0 k_1 n_1 f_1 s_1 r_1 W ⟨wk0, wn0, wf0, ws0, wr0⟩ ⟨wk1, wn1, wf1, ws1, wr1⟩).mono fun e W' ⟨he, bel⟩ => ?_
  subst he
  exact ⟨_, rfl, _, _, _, [], _, [], hW', trodAll_mk1 (shut_bool Try.underlying4 _), (trodAll_cons_mk (Below.trod laidOut (by kernel_rfl) (of_decide_eq_true (by kernel_rfl)) k0 bel lt0) (trodAll_cons_mk (Below.trod laidOut (by kernel_rfl) (of_decide_eq_true (by kernel_rfl)) k1 bel lt1) trodAll_mk0)), rfl, bel.frame _, fun h => by cases h⟩

theorem over : Rows.fnExactCompareRow.holds Try.pinned (OpenSpec.ofChange Rows.fnExactCompareSpec) :=
  OpenClaim.holds_of_wide 6 Try.f6 rfl rfl rfl rfl rfl rfl rfl ⟨rfl, rfl, rfl, rfl, rfl⟩ rfl rfl rfl rfl rfl (by kernel_rfl) Try.func6 (by kernel_rfl)
    (of_decide_eq_true (by kernel_rfl)) (by unfold Func.isWrapper; first | (rw [if_pos (by decide +kernel)]; kernel_rfl) | (rw [if_neg (by decide +kernel)]; exact ⟨rfl, rfl⟩))
    (fun os started H enc _ => lifted os started H enc)

end Go.Proofs.Ytkipmogmejfmcaa.lawCompare
namespace Go.Proofs.Ytkipmogmejfmcaa
theorem compare_holds : Rows.FnExactCompareSaid := lawCompare.over
#print axioms compare_holds
end Go.Proofs.Ytkipmogmejfmcaa
