/-
  OWN WORK. The law FnExactTableOk.
-/
import Derived.Test.YtkipmogmejfmcaaTOpen
import Derived.Test.YtkipmogmejfmcaaBBook
namespace Go.Proofs.Ytkipmogmejfmcaa.lawTableOk
open Go.ChangeShapes Go.WideShapes Go.ChangeAt Go.RowKit
attribute [local go_sem] run_store_float
set_option linter.unusedVariables false

theorem boxt (w : World) (a b : Value) (t : TypeId) : Below w.heap.size w (w.alloc (.cells #[a, b] t)) ∧ (w.alloc (.cells #[a, b] t)).cell? ⟨w.heap.size, 0, none⟩ = some a ∧ (w.alloc (.cells #[a, b] t)).cell? ⟨w.heap.size, 1, none⟩ = some b := by
  refine ⟨bw1 _ _, ?_, ?_⟩ <;> simp [go_sem]

set_option maxRecDepth 20000 in
set_option maxHeartbeats 1000000 in
theorem walk (sv : Value) (tu : Int) (ps : List PD) (w : World) (ta : TArg w sv ps) (po : ∀ p ∈ ps, p.ok) (pl : ps.length ≤ maxLen) (wt : (Lit.int .i64 tu).wf = true) :
    Calls Try.prog 10 #[.agg #[sv, .int .i64 tu]] w fun e w' => e = .returned (.bool true) ∧ Below w.heap.size w w' := by
  have TA : Hid (TArg w sv ps) := ta
  clear ta
  go_enter Try.func10, Try.ntmps10
  go_wp2_with fail
  refine (szt_arg sv ps tu 1048576 _ (TA.out.later (bw1 _ _)) po pl (by omega) (by omega)).mono ?_
  rintro e w1 ⟨⟨r, rfl, hr⟩, hx⟩
  have t0 : w1.cell? ⟨w.heap.size, 0, none⟩ = some sv := by rw [hx.cell (by simp)]; simp [go_sem]
  have t1 : w1.cell? ⟨w.heap.size, 1, none⟩ = some (.int .i64 tu) := by rw [hx.cell (by simp)]; simp [go_sem]
  have hb := (bw1 _ _).trans (hx.mono (by simp))
  clear hx
  rcases hr with rfl | ⟨hr0, hr1⟩
  · go_wp2_with fail
    go_ret
    exact ⟨rfl, hb⟩
  have hlen : ps.length ≤ 1048576 := by omega
  go_wp2_with fail
  refine (tot_arg sv ps tu _ (TA.out.later hb) hlen).mono ?_
  rintro e w2 ⟨⟨g1, hg1, rfl, hR1⟩, hx⟩
  have HR1 : Hid (Row w2 g1 ps.length ps) := hR1
  replace hb := hb.trans (hx.mono hb.size)
  replace t0 := cell_later hx t0; replace t1 := cell_later hx t1
  clear hx hR1
  go_wp2_with fail
  refine (tok_any g1 0 ps.length ps.length ps tu _ rfl (HR1.out.at rfl) hlen po).mono ?_
  rintro e w3 ⟨rfl, hx⟩
  replace hb := hb.trans (hx.mono hb.size)
  replace t0 := cell_later hx t0; replace t1 := cell_later hx t1
  clear hx HR1
  go_wp2_with fail
  refine (tot_arg sv ps tu _ (TA.out.later hb) hlen).mono ?_
  rintro e w4 ⟨⟨g2, hg2, rfl, hR2⟩, hx⟩
  have HR2 : Hid (Row w4 g2 ps.length ps) := hR2
  replace hb := hb.trans (hx.mono hb.size)
  replace t0 := cell_later hx t0; replace t1 := cell_later hx t1
  clear hx hR2
  go_wp2_with fail
  obtain ⟨hx, x0, x1⟩ := boxt w4 (.slice (some ⟨g2, 0, none⟩) ps.length ps.length) (.int .i64 tu) 55
  refine (itok_any g2 0 ps.length ps.length ps tu _ rfl ((HR2.out.later hx).at rfl) hlen po).mono ?_
  rintro e w5 ⟨rfl, hy⟩
  replace x0 := cell_later hy x0; replace x1 := cell_later hy x1
  replace hx := hx.trans (hy.mono hx.size)
  replace t0 := cell_later hx t0; replace t1 := cell_later hx t1
  replace hb := hb.trans (hx.mono hb.size)
  replace HR2 : Hid (Row w5 g2 ps.length ps) := HR2.out.later hx
  clear hx hy
  go_wp2_with fail
  go_region_with (first | (go_at_call 37; refine (tot_arg sv ps tu _ (TA.out.later (hb.trans ((Below.refl _ _).drew))) hlen).mono ?_; rintro e w6 ⟨⟨g3, hg3, rfl, hR3⟩, hx⟩; replace hx := und1 hx; have HR3 : Hid (Row w6 g3 ps.length ps) := hR3; replace HR2 : Hid (Row w6 g2 ps.length ps) := HR2.out.later hx; replace x0 := cell_later hx x0; replace x1 := cell_later hx x1; replace hb := hb.trans (hx.mono hb.size); clear hx hR3) | (go_at_call 39; refine (eqt_some g2 0 ps.length g3 0 ps.length ps.length tu ps _ rfl (HR2.out.at rfl) (HR3.out.at rfl) hlen).mono ?_; rintro e w7 ⟨rfl, hx⟩; replace hb := hb.trans (hx.mono hb.size); clear hx))
  all_goals
    go_wp2_with fail
    go_ret
    exact ⟨rfl, hb⟩

/-! The row's step. -/
theorem own : ownKnob Try.prog.godebug = none := by kernel_rfl
theorem laidOut : laidOutB Try.prog = true := by kernel_rfl
set_option maxRecDepth 100000 in
theorem lifted (os : Os) (started : os.Started) (H : Type) (enc : TypeId × Value → H) :
    ReturnsInHanded {} Try.checked os 10 .any (Rows.fnExactTableOkSpec.pre6 enc Try.prog Try.f10 Rows.fnExactTableOkRow.domain false) (Rows.fnExactTableOkSpec.post enc Try.prog Try.f10 false true false false) := by
  refine returnsInHanded_of_change (C := Try.checked) own started (by kernel_rfl) Try.func10
    (ChangeSpec.witness6 (enc := enc) (C := Try.checked) false ⟨#[], #[.agg #[.slice none 0 0, .int .i64 0]], []⟩ 8 (by kernel_rfl) (by kernel_rfl) (by kernel_rfl) (by kernel_rfl)) ?_
  intro W base args ds gs before hval0 hW hcnd _
  have hval : ∀ (j : Nat) t v, Try.f10.params[j]? = some t → args[j]? = some v → Value.okWide Try.prog W .any base t v := hval0
  have hW' := hW
  obtain ⟨p, q, hA0, hV, rfl, hfz, hnd⟩ := hW
  have hA : DataW.TrodAll enc Try.prog W 0 (fun _ => true) true Try.f10.params.toList args.toList ds p := hA0
  rw [Try.params10] at hA hval
  obtain ⟨v0, vs0, d0, ds0, p0, q0, hargs, rfl, rfl, h0, r0⟩ := trodAll_cons hA
  obtain ⟨rfl, rfl, rfl⟩ := trodAll_nil r0
  obtain rfl : args = #[v0] := by cases args; simp_all
  obtain ⟨rfl, rfl⟩ := trodVars_none hV
  have k0 := h0
  have lt0 : ∀ x ∈ p0, x.block < W.heap.size := by obtain ⟨m, hm⟩ := k0; exact DataW.trod_lt m _ _ _ hm
  obtain ⟨sv_0, tu_0, ps_0, rfl, ta0, po0, pl0, wt0⟩ := open_table (hval 0 50 v0 rfl rfl) h0
  clear h0
  clear hA0 hval0 hval
  refine (walk sv_0 tu_0 ps_0 W ta0 po0 pl0 wt0).mono fun e W' ⟨he, bel⟩ => ?_
  subst he
  exact ⟨_, rfl, _, _, _, [], _, [], hW', trodAll_mk1 (shut_bool Try.underlying4 _), (trodAll_cons_mk (Below.trod laidOut (by kernel_rfl) (of_decide_eq_true (by kernel_rfl)) k0 bel lt0) trodAll_mk0), rfl, bel.frame _, fun h => by cases h⟩

theorem over : Rows.fnExactTableOkRow.holds Try.pinned (OpenSpec.ofChange Rows.fnExactTableOkSpec) :=
  OpenClaim.holds_of_wide 10 Try.f10 rfl rfl rfl rfl rfl rfl rfl ⟨rfl, rfl, rfl, rfl, rfl⟩ rfl rfl rfl rfl rfl (by kernel_rfl) Try.func10 (by kernel_rfl)
    (of_decide_eq_true (by kernel_rfl)) (by unfold Func.isWrapper; first | (rw [if_pos (by decide +kernel)]; kernel_rfl) | (rw [if_neg (by decide +kernel)]; exact ⟨rfl, rfl⟩))
    (fun os started H enc _ => lifted os started H enc)

end Go.Proofs.Ytkipmogmejfmcaa.lawTableOk
namespace Go.Proofs.Ytkipmogmejfmcaa
theorem tableOk_holds : Rows.FnExactTableOkSaid := lawTableOk.over
#print axioms tableOk_holds
end Go.Proofs.Ytkipmogmejfmcaa
