/-
  OWN WORK. The law FnExactKey.
-/
import Derived.Test.YtkipmogmejfmcaaKey
import Derived.Test.YtkipmogmejfmcaaSz
namespace Go.Proofs.Ytkipmogmejfmcaa.lawKey
open Go.ChangeShapes Go.WideShapes Go.ChangeAt Go.RowKit
attribute [local go_sem] run_store_float
set_option linter.unusedVariables false

theorem flt_lt {f : Nat} (h : (Lit.float .f64 f).wf = true) : f < 18446744073709551616 := by simpa [Lit.wf] using h

set_option maxRecDepth 20000 in
set_option maxHeartbeats 1000000 in
theorem walk (k0 n0 : Int) (f0 : Nat) (s0 : ByteArray) (r0 : Int) (w : World) (hv0 : VW k0 n0 f0 s0 r0) :
    Calls Try.prog 8 #[VV k0 n0 f0 s0 r0] w fun e w' => e = .returned (.bool true) ∧ Below w.heap.size w w' := by
  obtain ⟨wk0, wn0, wf0, hs0, wr0⟩ := hv0
  have hf0 := flt_lt wf0
  obtain ⟨qc, qk, qn, qf, qs, qr, hU⟩ := keyV_agg k0 n0 f0 s0 r0
  by_cases hc0 : (1048576 : Int) - s0.size < 0
  · go_enter Try.func8, Try.ntmps8
    go_wp2_with fail
    refine (sz_no _ _ _ _ _ _ _ hs0 (by omega) (by omega) (by omega)).mono ?_
    rintro e w1 ⟨rfl, hb'⟩
    obtain ⟨hb, c00, c01, c02, c03, c04⟩ := box5 hb'
    clear hb'
    go_wp2_with fail
    go_ret
    exact ⟨rfl, hb⟩
  · go_enter Try.func8, Try.ntmps8
    go_wp2_with fail
    refine (sz_ok _ _ _ _ _ _ _ hs0 (by omega) (by omega)).mono ?_
    rintro e w1 ⟨rfl, hb'⟩
    obtain ⟨hb, c00, c01, c02, c03, c04⟩ := box5 hb'
    clear hb'
    go_wp2_with fail
    refine (to_any _ _ _ _ _ _).mono ?_
    rintro e w10 ⟨rfl, hx⟩
    replace hb := hb.trans (hx.mono hb.size)
    replace c00 := cell_later hx c00; replace c01 := cell_later hx c01; replace c02 := cell_later hx c02; replace c03 := cell_later hx c03; replace c04 := cell_later hx c04
    clear hx
    go_wp2_with fail
    refine (sk_any _ _ _ _ _ _ hs0 hf0).mono ?_
    rintro e w11 ⟨rfl, hx⟩
    replace hb := hb.trans (hx.mono hb.size)
    replace c00 := cell_later hx c00; replace c01 := cell_later hx c01; replace c02 := cell_later hx c02; replace c03 := cell_later hx c03; replace c04 := cell_later hx c04
    clear hx
    have hz0 := World.block_lt_of_cell? _ _ c00
    go_wp2_with fail
    refine (to_any _ _ _ _ _ _).mono ?_
    rintro e w12 ⟨rfl, hy⟩
    obtain ⟨hx, e0, e1, e2, e3, e4, e5⟩ := box6 hy
    clear hy
    replace hb := hb.trans (hx.mono hb.size)
    replace c00 := cell_later hx c00; replace c01 := cell_later hx c01; replace c02 := cell_later hx c02; replace c03 := cell_later hx c03; replace c04 := cell_later hx c04
    clear hx
    go_wp2_with fail
    refine (ik_any _ _ _ _ _ _ hf0).mono ?_
    rintro e w13 ⟨rfl, hx⟩
    replace hb := hb.trans (hx.mono hb.size)
    replace e0 := cell_later hx e0; replace e1 := cell_later hx e1; replace e2 := cell_later hx e2; replace e3 := cell_later hx e3; replace e4 := cell_later hx e4; replace e5 := cell_later hx e5
    clear hx
    have hz9 := World.block_lt_of_cell? _ _ e0
    go_wp2_with fail
    refine (eqd _ _ _ _ _ _ _).mono ?_
    rintro e w14 ⟨rfl, hy⟩
    obtain ⟨hx, _, _, _, _, _, _⟩ := box6 hy
    replace hb := hb.trans (hx.mono hb.size)
    clear hx hy
    go_wp2_with fail
    go_ret
    exact ⟨rfl, hb⟩

/-! The row's step. -/
theorem own : ownKnob Try.prog.godebug = none := by kernel_rfl
theorem laidOut : laidOutB Try.prog = true := by kernel_rfl
set_option maxRecDepth 100000 in
theorem lifted (os : Os) (started : os.Started) (H : Type) (enc : TypeId × Value → H) :
    ReturnsInHanded {} Try.checked os 8 .any (Rows.fnExactKeySpec.pre6 enc Try.prog Try.f8 Rows.fnExactKeyRow.domain false) (Rows.fnExactKeySpec.post enc Try.prog Try.f8 false true false false) := by
  refine returnsInHanded_of_change (C := Try.checked) own started (by kernel_rfl) Try.func8
    (ChangeSpec.witness6 (enc := enc) (C := Try.checked) false ⟨#[], #[VV 0 0 0 ByteArray.empty 0], []⟩ 8 (by kernel_rfl) (by kernel_rfl) (by kernel_rfl) (by kernel_rfl)) ?_
  intro W base args ds gs before hval0 hW hcnd _
  have hval : ∀ (j : Nat) t v, Try.f8.params[j]? = some t → args[j]? = some v → Value.okWide Try.prog W .any base t v := hval0
  have hW' := hW
  obtain ⟨p, q, hA0, hV, rfl, hfz, hnd⟩ := hW
  have hA : DataW.TrodAll enc Try.prog W 0 (fun _ => true) true Try.f8.params.toList args.toList ds p := hA0
  rw [Try.params8] at hA hval
  obtain ⟨v0, vs0, d0, ds0, p0, q0, hargs, rfl, rfl, h0, r0⟩ := trodAll_cons hA
  obtain ⟨rfl, rfl, rfl⟩ := trodAll_nil r0
  obtain rfl : args = #[v0] := by cases args; simp_all
  obtain ⟨rfl, rfl⟩ := trodVars_none hV
  have k0 := h0
  have lt0 : ∀ x ∈ p0, x.block < W.heap.size := by obtain ⟨m, hm⟩ := k0; exact DataW.trod_lt m _ _ _ hm
  obtain ⟨x0, x1, x2, x3, x4, y0, y1, y2, y3, y4, m, rfl, hd, hp, t0, t1, t2, t3, t4⟩ := open_agg5 Try.underlying24 (by kernel_rfl) (by kernel_rfl) (by kernel_rfl) (by kernel_rfl) (by kernel_rfl) (by kernel_rfl) (by kernel_rfl) (by kernel_rfl) (by kernel_rfl) (by kernel_rfl) (by kernel_rfl) (hval 0 24 v0 rfl rfl) h0
  obtain ⟨k_0, e0, _, wk0⟩ := DataW.trod_int Try.underlying3 t0
  obtain ⟨n_0, e1, _, wn0⟩ := DataW.trod_int Try.underlying2 t1
  obtain ⟨f_0, e2, _, wf0⟩ := trod_float Try.underlying22 t2
  obtain ⟨s_0, e3, _, ws0⟩ := DataW.trod_string Try.underlying9 t3
  obtain ⟨r_0, e4, _, wr0⟩ := DataW.trod_int Try.underlying3 t4
  simp only [List.cons.injEq, and_true] at e0 e1 e3 e4
  subst e0 e1 e2 e3 e4
  clear t0 t1 t2 t3 t4 hd hp h0
  clear hA0 hval0 hval
  refine (walk k_0 n_0 f_0 s_0 r_0 W ⟨wk0, wn0, wf0, ws0, wr0⟩).mono fun e W' ⟨he, bel⟩ => ?_
  subst he
  exact ⟨_, rfl, _, _, _, [], _, [], hW', trodAll_mk1 (shut_bool Try.underlying4 _), (trodAll_cons_mk (Below.trod laidOut (by kernel_rfl) (of_decide_eq_true (by kernel_rfl)) k0 bel lt0) trodAll_mk0), rfl, bel.frame _, fun h => by cases h⟩

theorem over : Rows.fnExactKeyRow.holds Try.pinned (OpenSpec.ofChange Rows.fnExactKeySpec) :=
  OpenClaim.holds_of_wide 8 Try.f8 rfl rfl rfl rfl rfl rfl rfl ⟨rfl, rfl, rfl, rfl, rfl⟩ rfl rfl rfl rfl rfl (by kernel_rfl) Try.func8 (by kernel_rfl)
    (of_decide_eq_true (by kernel_rfl)) (by unfold Func.isWrapper; first | (rw [if_pos (by decide +kernel)]; kernel_rfl) | (rw [if_neg (by decide +kernel)]; exact ⟨rfl, rfl⟩))
    (fun os started H enc _ => lifted os started H enc)

end Go.Proofs.Ytkipmogmejfmcaa.lawKey
namespace Go.Proofs.Ytkipmogmejfmcaa
theorem key_holds : Rows.FnExactKeySaid := lawKey.over
#print axioms key_holds
end Go.Proofs.Ytkipmogmejfmcaa
