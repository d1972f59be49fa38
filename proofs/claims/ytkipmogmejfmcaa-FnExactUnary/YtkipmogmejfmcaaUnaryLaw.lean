/-
  OWN WORK. The law FnExactUnary.
-/
import Derived.Test.YtkipmogmejfmcaaUnary
import Derived.Test.YtkipmogmejfmcaaSz
namespace Go.Proofs.Ytkipmogmejfmcaa.lawUnary
open Go.ChangeShapes Go.WideShapes Go.ChangeAt Go.RowKit
attribute [local go_sem] run_store_float
set_option linter.unusedVariables false

set_option maxRecDepth 20000 in
set_option maxHeartbeats 1000000 in
theorem walk (o0 : Int) (k1 n1 : Int) (f1 : Nat) (s1 : ByteArray) (r1 : Int) (w : World) (wo0 : (Lit.int .i64 o0).wf = true) (hv1 : VW k1 n1 f1 s1 r1) :
    Calls Try.prog 9 #[.int .i64 o0, VV k1 n1 f1 s1 r1] w fun e w' => e = .returned (.bool true) ∧ Below w.heap.size w w' := by
  obtain ⟨wk1, wn1, wf1, hs1, wr1⟩ := hv1
  obtain ⟨qc, qk, qn, qf, qs, qr, hU⟩ := unV_agg o0 k1 n1 f1 s1 r1
  by_cases hc1 : (1048576 : Int) - s1.size < 0
  · go_enter Try.func9, Try.ntmps9
    go_wp2_with fail
    refine (sz_no _ _ _ _ _ _ _ hs1 (by omega) (by omega) (by omega)).mono ?_
    rintro e w1 ⟨rfl, hb'⟩
    obtain ⟨hb, c10, c11, c12, c13, c14⟩ := box5 hb'
    clear hb'
    go_wp2_with fail
    go_ret
    exact ⟨rfl, hb⟩
  · go_enter Try.func9, Try.ntmps9
    go_wp2_with fail
    refine (sz_ok _ _ _ _ _ _ _ hs1 (by omega) (by omega)).mono ?_
    rintro e w1 ⟨rfl, hb'⟩
    obtain ⟨hb, c10, c11, c12, c13, c14⟩ := box5 hb'
    clear hb'
    go_wp2_with fail
    refine (to_any _ _ _ _ _ _).mono ?_
    rintro e w10 ⟨rfl, hx⟩
    replace hb := hb.trans (hx.mono hb.size)
    replace c10 := cell_later hx c10; replace c11 := cell_later hx c11; replace c12 := cell_later hx c12; replace c13 := cell_later hx c13; replace c14 := cell_later hx c14
    clear hx
    go_wp2_with fail
    refine (sun_any _ _ _ _ _ _ _ hs1).mono ?_
    rintro e w11 ⟨rfl, hx⟩
    replace hb := hb.trans (hx.mono hb.size)
    replace c10 := cell_later hx c10; replace c11 := cell_later hx c11; replace c12 := cell_later hx c12; replace c13 := cell_later hx c13; replace c14 := cell_later hx c14
    clear hx
    have hz0 := World.block_lt_of_cell? _ _ c10
    go_wp2_with fail
    refine (to_any _ _ _ _ _ _).mono ?_
    rintro e w12 ⟨rfl, hy⟩
    obtain ⟨hx, e0, e1, e2, e3, e4, e5⟩ := box6 hy
    clear hy
    replace hb := hb.trans (hx.mono hb.size)
    replace c10 := cell_later hx c10; replace c11 := cell_later hx c11; replace c12 := cell_later hx c12; replace c13 := cell_later hx c13; replace c14 := cell_later hx c14
    clear hx
    go_wp2_with fail
    refine (iun_any _ _ _ _ _ _ _).mono ?_
    rintro e w13 ⟨rfl, hx⟩
    replace hb := hb.trans (hx.mono hb.size)
    replace e0 := cell_later hx e0; replace e1 := cell_later hx e1; replace e2 := cell_later hx e2; replace e3 := cell_later hx e3; replace e4 := cell_later hx e4; replace e5 := cell_later hx e5
    clear hx
    have hz9 := World.block_lt_of_cell? _ _ e0
    go_wp2_with fail
    refine (eqd _ _ _ _ _ _ _).mono ?_
    rintro e w14 ⟨rfl, hy⟩
    obtain ⟨hx, _, _, _, _, _, _⟩ := box6 hy
    replace hb := hb.trans (hx.mono hb.size)
    clear hx hy
    go_wp2_with fail
    go_ret
    exact ⟨rfl, hb⟩

/-! The row's step. -/
theorem own : ownKnob Try.prog.godebug = none := by kernel_rfl
theorem laidOut : laidOutB Try.prog = true := by kernel_rfl
set_option maxRecDepth 100000 in
theorem lifted (os : Os) (started : os.Started) (H : Type) (enc : TypeId × Value → H) :
    ReturnsInHanded {} Try.checked os 9 .any (Rows.fnExactUnarySpec.pre6 enc Try.prog Try.f9 Rows.fnExactUnaryRow.domain false) (Rows.fnExactUnarySpec.post enc Try.prog Try.f9 false true false false) := by
  refine returnsInHanded_of_change (C := Try.checked) own started (by kernel_rfl) Try.func9
    (ChangeSpec.witness6 (enc := enc) (C := Try.checked) false ⟨#[], #[.int .i64 0, VV 0 0 0 ByteArray.empty 0], []⟩ 8 (by kernel_rfl) (by kernel_rfl) (by kernel_rfl) (by kernel_rfl)) ?_
  intro W base args ds gs before hval0 hW hcnd _
  have hval : ∀ (j : Nat) t v, Try.f9.params[j]? = some t → args[j]? = some v → Value.okWide Try.prog W .any base t v := hval0
  have hW' := hW
  obtain ⟨p, q, hA0, hV, rfl, hfz, hnd⟩ := hW
  have hA : DataW.TrodAll enc Try.prog W 0 (fun _ => true) true Try.f9.params.toList args.toList ds p := hA0
  rw [Try.params9] at hA hval
  obtain ⟨v0, vs0, d0, ds0, p0, q0, hargs, rfl, rfl, h0, r0⟩ := trodAll_cons hA
  obtain ⟨v1, vs1, d1, ds1, p1, q1, rfl, rfl, rfl, h1, r1⟩ := trodAll_cons r0
  obtain ⟨rfl, rfl, rfl⟩ := trodAll_nil r1
  obtain rfl : args = #[v0, v1] := by cases args; simp_all
  obtain ⟨rfl, rfl⟩ := trodVars_none hV
  obtain ⟨o_0, rfl, rfl, rfl, wo0⟩ := open_int Try.underlying3 (hval 0 3 v0 rfl rfl) h0
  have k1 := h1
  have lt1 : ∀ x ∈ p1, x.block < W.heap.size := by obtain ⟨m, hm⟩ := k1; exact DataW.trod_lt m _ _ _ hm
  obtain ⟨x0, x1, x2, x3, x4, y0, y1, y2, y3, y4, m, rfl, hd, hp, t0, t1, t2, t3, t4⟩ := open_agg5 Try.underlying24 (by kernel_rfl) (by kernel_rfl) (by kernel_rfl) (by kernel_rfl) (by kernel_rfl) (by kernel_rfl) (by kernel_rfl) (by kernel_rfl) (by kernel_rfl) (by kernel_rfl) (by kernel_rfl) (hval 1 24 v1 rfl rfl) h1
  obtain ⟨k_1, e0, _, wk1⟩ := DataW.trod_int Try.underlying3 t0
  obtain ⟨n_1, e1, _, wn1⟩ := DataW.trod_int Try.underlying2 t1
  obtain ⟨f_1, e2, _, wf1⟩ := trod_float Try.underlying22 t2
  obtain ⟨s_1, e3, _, ws1⟩ := DataW.trod_string Try.underlying9 t3
  obtain ⟨r_1, e4, _, wr1⟩ := DataW.trod_int Try.underlying3 t4
  simp only [List.cons.injEq, and_true] at e0 e1 e3 e4
  subst e0 e1 e2 e3 e4
  clear t0 t1 t2 t3 t4 hd hp h1
  clear hA0 hval0 hval
  refine (walk o_0 k_1 n_1 f_1 s_1 r_1 W wo0 ⟨wk1, wn1, wf1, ws1, wr1⟩).mono fun e W' ⟨he, bel⟩ => ?_
  subst he
  exact ⟨_, rfl, _, _, _, [], _, [], hW', trodAll_mk1 (shut_bool Try.underlying4 _), (trodAll_cons_mk (shut_int Try.underlying3 wo0) (trodAll_cons_mk (Below.trod laidOut (by kernel_rfl) (of_decide_eq_true (by kernel_rfl)) k1 bel lt1) trodAll_mk0)), rfl, bel.frame _, fun h => by cases h⟩

theorem over : Rows.fnExactUnaryRow.holds Try.pinned (OpenSpec.ofChange Rows.fnExactUnarySpec) :=
  OpenClaim.holds_of_wide 9 Try.f9 rfl rfl rfl rfl rfl rfl rfl ⟨rfl, rfl, rfl, rfl, rfl⟩ rfl rfl rfl rfl rfl (by kernel_rfl) Try.func9 (by kernel_rfl)
    (of_decide_eq_true (by kernel_rfl)) (by unfold Func.isWrapper; first | (rw [if_pos (by decide +kernel)]; kernel_rfl) | (rw [if_neg (by decide +kernel)]; exact ⟨rfl, rfl⟩))
    (fun os started H enc _ => lifted os started H enc)

end Go.Proofs.Ytkipmogmejfmcaa.lawUnary
namespace Go.Proofs.Ytkipmogmejfmcaa
theorem unary_holds : Rows.FnExactUnarySaid := lawUnary.over
#print axioms unary_holds
end Go.Proofs.Ytkipmogmejfmcaa
