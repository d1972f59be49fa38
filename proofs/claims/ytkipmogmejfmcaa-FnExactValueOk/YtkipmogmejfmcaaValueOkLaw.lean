/-
  OWN WORK. The law FnExactValueOk.
-/
import Derived.Test.YtkipmogmejfmcaaTerm
namespace Go.Proofs.Ytkipmogmejfmcaa.lawValueOk
open Go.ChangeShapes Go.WideShapes Go.ChangeAt Go.RowKit
set_option linter.unusedVariables false

set_option maxRecDepth 20000 in
set_option maxHeartbeats 1000000 in
theorem walk (k n : Int) (f : Nat) (s : ByteArray) (r : Int) (w : World) (hv : VW k n f s r) :
    Calls Try.prog 3 #[VV k n f s r] w fun e w' => e = .returned (.bool true) ∧ Below w.heap.size w w' := by
  obtain ⟨_, _, _, hs, _⟩ := hv
  by_cases hc : (1048576 : Int) - s.size < 0
  · go_enter Try.func3, Try.ntmps3
    go_wp2_with (go_at_call 15; refine (sz_any _ _ _ _ _ _ _ hs (by omega) (by omega)).mono ?_; rw [if_pos hc]; rintro e w' ⟨rfl, hb'⟩; obtain ⟨hb, c0, c1, c2, c3, c4⟩ := box5 hb'; clear hb')
    go_ret
    exact ⟨rfl, hb⟩
  · go_enter Try.func3, Try.ntmps3
    go_wp2_with (go_at_call 15; refine (sz_any _ _ _ _ _ _ _ hs (by omega) (by omega)).mono ?_; rw [if_neg hc]; rintro e w' ⟨rfl, hb'⟩; obtain ⟨hb, c0, c1, c2, c3, c4⟩ := box5 hb'; clear hb')
    refine (to_any _ _ _ _ _ _).mono ?_
    rintro e w2 ⟨rfl, hb2⟩
    replace hb := hb.trans (hb2.mono hb.size)
    replace c0 := cell_later hb2 c0; replace c1 := cell_later hb2 c1; replace c2 := cell_later hb2 c2; replace c3 := cell_later hb2 c3; replace c4 := cell_later hb2 c4
    clear hb2
    go_wp2_with fail
    refine (vok_any _ _ _ _ _ _ hs).mono ?_
    rintro e w3 ⟨rfl, hb3⟩
    replace hb := hb.trans (hb3.mono hb.size)
    replace c0 := cell_later hb3 c0; replace c1 := cell_later hb3 c1; replace c2 := cell_later hb3 c2; replace c3 := cell_later hb3 c3; replace c4 := cell_later hb3 c4
    clear hb3
    go_wp2_with fail
    refine (to_any _ _ _ _ _ _).mono ?_
    rintro e w4 ⟨rfl, hb4⟩
    replace hb := hb.trans (hb4.mono hb.size)
    replace c0 := cell_later hb4 c0; replace c1 := cell_later hb4 c1; replace c2 := cell_later hb4 c2; replace c3 := cell_later hb4 c3; replace c4 := cell_later hb4 c4
    clear hb4
    go_wp2_with fail
    refine (iok_any _ _ _ _ _ _).mono ?_
    rintro e w5 ⟨rfl, hb5⟩
    replace hb := hb.trans (hb5.mono hb.size)
    clear hb5 c0 c1 c2 c3 c4
    go_wp2_with fail
    go_ret
    exact ⟨rfl, hb⟩

/-! The row's step. -/
theorem own : ownKnob Try.prog.godebug = none := by kernel_rfl
theorem laidOut : laidOutB Try.prog = true := by kernel_rfl
set_option maxRecDepth 100000 in
theorem lifted (os : Os) (started : os.Started) (H : Type) (enc : TypeId × Value → H) :
    ReturnsInHanded {} Try.checked os 3 .any (Rows.fnExactValueOkSpec.pre6 enc Try.prog Try.f3 Rows.fnExactValueOkRow.domain false) (Rows.fnExactValueOkSpec.post enc Try.prog Try.f3 false true false false) := by
  refine returnsInHanded_of_change (C := Try.checked) own started (by kernel_rfl) Try.func3
    (ChangeSpec.witness6 (enc := enc) (C := Try.checked) false ⟨#[], #[VV 0 0 0 ByteArray.empty 0], []⟩ 8 (by kernel_rfl) (by kernel_rfl) (by kernel_rfl) (by kernel_rfl)) ?_
  intro W base args ds gs before hval0 hW hcnd _
  have hval : ∀ (j : Nat) t v, Try.f3.params[j]? = some t → args[j]? = some v → Value.okWide Try.prog W .any base t v := hval0
  have hW' := hW
  obtain ⟨p, q, hA0, hV, rfl, hfz, hnd⟩ := hW
  have hA : DataW.TrodAll enc Try.prog W 0 (fun _ => true) true Try.f3.params.toList args.toList ds p := hA0
  rw [Try.params3] at hA hval
  obtain ⟨v0, vs0, d0, ds0, p0, q0, hargs, rfl, rfl, h0, r0⟩ := trodAll_cons hA
  obtain ⟨rfl, rfl, rfl⟩ := trodAll_nil r0
  obtain rfl : args = #[v0] := by cases args; simp_all
  obtain ⟨rfl, rfl⟩ := trodVars_none hV
  have k0 := h0
  have lt0 : ∀ x ∈ p0, x.block < W.heap.size := by obtain ⟨m, hm⟩ := k0; exact DataW.trod_lt m _ _ _ hm
  obtain ⟨x0, x1, x2, x3, x4, y0, y1, y2, y3, y4, m, rfl, hd, hp, t0, t1, t2, t3, t4⟩ := open_agg5 Try.underlying24 (by kernel_rfl) (by kernel_rfl) (by kernel_rfl) (by kernel_rfl) (by kernel_rfl) (by kernel_rfl) (by kernel_rfl) (by kernel_rfl) (by kernel_rfl) (by kernel_rfl) (by kernel_rfl) (hval 0 24 v0 rfl rfl) h0
  obtain ⟨k_0, e0, _, wk0⟩ := DataW.trod_int Try.underlying3 t0
  obtain ⟨n_0, e1, _, wn0⟩ := DataW.trod_int Try.underlying2 t1
  obtain ⟨f_0, e2, _, wf0⟩ := trod_float Try.underlying22 t2
  obtain ⟨s_0, e3, _, ws0⟩ := DataW.trod_string Try.underlying9 t3
  obtain ⟨r_0, e4, _, wr0⟩ := DataW.trod_int Try.underlying3 t4
  simp only [List.cons.injEq, and_true] at e0 e1 e3 e4
  subst e0 e1 e2 e3 e4
  clear t0 t1 t2 t3 t4 hd hp h0
  clear hA0 hval0 hval
  refine (walk k_0 n_0 f_0 s_0 r_0 W ⟨wk0, wn0, wf0, ws0, wr0⟩).mono fun e W' ⟨he, bel⟩ => ?_
  subst he
  exact ⟨_, rfl, _, _, _, [], _, [], hW', trodAll_mk1 (shut_bool Try.underlying4 _), (trodAll_cons_mk (Below.trod laidOut (by kernel_rfl) (of_decide_eq_true (by kernel_rfl)) k0 bel lt0) trodAll_mk0), rfl, bel.frame _, fun h => by cases h⟩

theorem over : Rows.fnExactValueOkRow.holds Try.pinned (OpenSpec.ofChange Rows.fnExactValueOkSpec) :=
  OpenClaim.holds_of_wide 3 Try.f3 rfl rfl rfl rfl rfl rfl rfl ⟨rfl, rfl, rfl, rfl, rfl⟩ rfl rfl rfl rfl rfl (by kernel_rfl) Try.func3 (by kernel_rfl)
    (of_decide_eq_true (by kernel_rfl)) (by unfold Func.isWrapper; first | (rw [if_pos (by decide +kernel)]; kernel_rfl) | (rw [if_neg (by decide +kernel)]; exact ⟨rfl, rfl⟩))
    (fun os started H enc _ => lifted os started H enc)

end Go.Proofs.Ytkipmogmejfmcaa.lawValueOk
namespace Go.Proofs.Ytkipmogmejfmcaa
theorem valueOk_holds : Rows.FnExactValueOkSaid := lawValueOk.over
#print axioms valueOk_holds
end Go.Proofs.Ytkipmogmejfmcaa
