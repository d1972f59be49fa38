/-
  OWN WORK. The law FnExactAfter.
-/
import Derived.Test.YtkipmogmejfmcaaTOpen
import Derived.Test.YtkipmogmejfmcaaBAft
namespace Go.Proofs.Ytkipmogmejfmcaa.lawAfter
open Go.ChangeShapes Go.WideShapes Go.ChangeAt Go.RowKit
attribute [local go_sem] run_store_float
set_option linter.unusedVariables false

theorem boxt (w : World) (a b : Value) (t : TypeId) : Below w.heap.size w (w.alloc (.cells #[a, b] t)) ∧ (w.alloc (.cells #[a, b] t)).cell? ⟨w.heap.size, 0, none⟩ = some a ∧ (w.alloc (.cells #[a, b] t)).cell? ⟨w.heap.size, 1, none⟩ = some b := by
  refine ⟨bw1 _ _, ?_, ?_⟩ <;> simp [go_sem]

set_option maxRecDepth 20000 in
set_option maxHeartbeats 1000000 in
theorem eqf (f : Bool) (p : PD) (w : World) : Calls Try.prog 42 #[FV f p, FV f p] w fun e w' => e = .returned (.bool true) ∧ Below w.heap.size w w' := by
  go_enter Try.func42, Try.ntmps42
  go_wp2_with fail
  refine (eqp p _).mono ?_
  rintro e w1 ⟨rfl, hx⟩
  have hb := (bw2 _ _ _).trans (hx.mono (by simp; omega))
  go_wp2_with fail
  go_ret
  exact ⟨rfl, hb⟩

/-- What After answers. -/
def aftB (ps : List PD) (turns turn : Int) : Bool := if tokV ps turns = true then (aft turn ps).isSome else false
def aftP (ps : List PD) (turns turn : Int) : PD := if tokV ps turns = true then (aft turn ps).getD pd0 else pd0

theorem afts_any (b off len cap : Nat) (ps : List PD) (turns turn : Int) (w : World) (hl : ps.length = len) (hp : PAt w b off ps) (hlen : len ≤ 1048576) (hok : ∀ p ∈ ps, p.ok) :
    Calls Try.prog 40 #[.agg #[.slice (some ⟨b, off, none⟩) len cap, .int .i64 turns], .int .i64 turn] w fun e w' => e = .returned (FV (aftB ps turns turn) (aftP ps turns turn)) ∧ Below w.heap.size w w' := by
  unfold aftB aftP
  by_cases ht : tokV ps turns = true
  · rw [if_pos ht, if_pos ht]; exact afts_ok b off len cap ps turns turn w hl hp hlen hok ht
  · rw [if_neg ht, if_neg ht]; exact afts_bad b off len cap ps turns turn w hl hp hlen hok (by simpa using ht)
theorem iaft_any (b off len cap : Nat) (ps : List PD) (turns turn : Int) (w : World) (hl : ps.length = len) (hp : PAt w b off ps) (hlen : len ≤ 1048576) (hok : ∀ p ∈ ps, p.ok) :
    Calls Try.prog 41 #[.agg #[.slice (some ⟨b, off, none⟩) len cap, .int .i64 turns], .int .i64 turn] w fun e w' => e = .returned (FV (aftB ps turns turn) (aftP ps turns turn)) ∧ Below w.heap.size w w' := by
  unfold aftB aftP
  by_cases ht : tokV ps turns = true
  · rw [if_pos ht, if_pos ht]; exact iaft_ok b off len cap ps turns turn w hl hp hlen hok ht
  · rw [if_neg ht, if_neg ht]; exact iaft_bad b off len cap ps turns turn w hl hp hlen hok (by simpa using ht)

/-- The twelve cells of a boxed answer. -/
def FBox (w : World) (g : Nat) (f : Bool) (p : PD) : Prop := w.cell? ⟨g, 0, none⟩ = some (.bool f) ∧ w.cell? ⟨g, 1, none⟩ = some (.int .i64 p.key.k) ∧ w.cell? ⟨g, 2, none⟩ = some (.int .i64 p.key.n) ∧ w.cell? ⟨g, 3, none⟩ = some (.float .f64 p.key.f) ∧ w.cell? ⟨g, 4, none⟩ = some (.string p.key.s) ∧ w.cell? ⟨g, 5, none⟩ = some (.int .i64 p.key.r) ∧ w.cell? ⟨g, 6, none⟩ = some (.int .i64 p.val.k) ∧ w.cell? ⟨g, 7, none⟩ = some (.int .i64 p.val.n) ∧ w.cell? ⟨g, 8, none⟩ = some (.float .f64 p.val.f) ∧ w.cell? ⟨g, 9, none⟩ = some (.string p.val.s) ∧ w.cell? ⟨g, 10, none⟩ = some (.int .i64 p.val.r) ∧ w.cell? ⟨g, 11, none⟩ = some (.int .i64 p.turn)
theorem FBox.later {w wx : World} {g : Nat} {f : Bool} {p : PD} (hb : Below w.heap.size w wx) (h : FBox w g f p) : FBox wx g f p := by
  obtain ⟨d0, d1, d2, d3, d4, d5, d6, d7, d8, d9, d10, d11⟩ := h
  exact ⟨cell_later hb d0, cell_later hb d1, cell_later hb d2, cell_later hb d3, cell_later hb d4, cell_later hb d5, cell_later hb d6, cell_later hb d7, cell_later hb d8, cell_later hb d9, cell_later hb d10, cell_later hb d11⟩
theorem fbox_new (w : World) (f : Bool) (p : PD) : FBox (w.alloc (FO f p)) w.heap.size f p := by
  refine ⟨?_, ?_, ?_, ?_, ?_, ?_, ?_, ?_, ?_, ?_, ?_, ?_⟩ <;> simp [go_sem]

set_option maxRecDepth 20000 in
set_option maxHeartbeats 1000000 in
theorem walk (sv : Value) (tu : Int) (ps : List PD) (o : Int) (w : World) (ta : TArg w sv ps) (po : ∀ p ∈ ps, p.ok) (pl : ps.length ≤ maxLen) (wt : (Lit.int .i64 tu).wf = true) (wo : (Lit.int .i64 o).wf = true) :
    Calls Try.prog 11 #[.agg #[sv, .int .i64 tu], .int .i64 o] w fun e w' => e = .returned (.bool true) ∧ Below w.heap.size w w' := by
  have TA : Hid (TArg w sv ps) := ta
  obtain ⟨gf, hgf⟩ : ∃ gf, gf = aftB ps tu o := ⟨_, rfl⟩
  obtain ⟨gp, hgp⟩ : ∃ gp, gp = aftP ps tu o := ⟨_, rfl⟩
  have HF : Hid (gf = aftB ps tu o) := hgf
  have HG : Hid (gp = aftP ps tu o) := hgp
  clear ta hgf hgp
  go_enter Try.func11, Try.ntmps11
  go_wp2_with fail
  refine (szt_arg sv ps tu 1048576 _ (TA.out.later (bw1 _ _)) po pl (by omega) (by omega)).mono ?_
  rintro e w1 ⟨⟨r, rfl, hr⟩, hx⟩
  have t0 : w1.cell? ⟨w.heap.size, 0, none⟩ = some sv := by rw [hx.cell (by simp)]; simp [go_sem]
  have t1 : w1.cell? ⟨w.heap.size, 1, none⟩ = some (.int .i64 tu) := by rw [hx.cell (by simp)]; simp [go_sem]
  have hb := (bw1 _ _).trans (hx.mono (by simp))
  clear hx
  rcases hr with rfl | ⟨hr0, hr1⟩
  · go_wp2_with fail
    go_ret
    exact ⟨rfl, hb⟩
  have hlen : ps.length ≤ 1048576 := by omega
  go_wp2_with fail
  refine (tot_arg sv ps tu _ (TA.out.later hb) hlen).mono ?_
  rintro e w2 ⟨⟨g1, hg1, rfl, hR1⟩, hx⟩
  have HR1 : Hid (Row w2 g1 ps.length ps) := hR1
  replace hb := hb.trans (hx.mono hb.size)
  replace t0 := cell_later hx t0; replace t1 := cell_later hx t1
  clear hx hR1
  go_wp2_with fail
  refine (afts_any g1 0 ps.length ps.length ps tu o _ rfl (HR1.out.at rfl) hlen po).mono ?_
  rw [← HF.out, ← HG.out]
  rintro e w3 ⟨rfl, hx⟩
  replace hb := hb.trans (hx.mono hb.size)
  replace t0 := cell_later hx t0; replace t1 := cell_later hx t1
  clear hx HR1
  have hz3 := World.block_lt_of_cell? _ _ t0
  have HX0 : Hid (FBox (w3.alloc (FO gf gp)) w3.heap.size gf gp) := fbox_new w3 gf gp
  have hx3 := bw1 w3 (FO gf gp)
  have u0 := cell_later hx3 t0; have u1 := cell_later hx3 t1
  go_wp2_with fail
  refine (tot_arg sv ps tu _ (TA.out.later (hb.trans (hx3.mono hb.size))) hlen).mono ?_
  rintro e w4 ⟨⟨g2, hg2, rfl, hR2⟩, hx⟩
  have HR2 : Hid (Row w4 g2 ps.length ps) := hR2
  replace HX0 : Hid (FBox w4 w3.heap.size gf gp) := HX0.out.later hx
  replace hb := hb.trans ((hx3.trans (hx.mono hx3.size)).mono hb.size)
  replace t0 := cell_later hx u0; replace t1 := cell_later hx u1
  have hz4 : w3.heap.size < w4.heap.size := World.block_lt_of_cell? _ _ HX0.out.1
  have hz5 := World.block_lt_of_cell? _ _ t0
  clear hx hR2 u0 u1 hx3 hz3
  go_wp2_with fail
  obtain ⟨hx, x0, x1⟩ := boxt w4 (.slice (some ⟨g2, 0, none⟩) ps.length ps.length) (.int .i64 tu) 55
  refine (iaft_any g2 0 ps.length ps.length ps tu o _ rfl ((HR2.out.later hx).at rfl) hlen po).mono ?_
  rw [← HF.out, ← HG.out]
  rintro e w5 ⟨rfl, hy⟩
  replace x0 := cell_later hy x0; replace x1 := cell_later hy x1
  replace hx := hx.trans (hy.mono hx.size)
  replace t0 := cell_later hx t0; replace t1 := cell_later hx t1
  replace hb := hb.trans (hx.mono hb.size)
  replace HR2 : Hid (Row w5 g2 ps.length ps) := HR2.out.later hx
  replace HX0 : Hid (FBox w5 w3.heap.size gf gp) := HX0.out.later hx
  clear hx hy
  have hx5 := bw1 w5 (FO gf gp)
  have HX1 : Hid (FBox (w5.alloc (FO gf gp)) w5.heap.size gf gp) := fbox_new w5 gf gp
  have HX2 : Hid (FBox (w5.alloc (FO gf gp)) w3.heap.size gf gp) := HX0.out.later hx5
  obtain ⟨p0, p1, p2, p3, p4, p5, p6, p7, p8, p9, p10, p11⟩ := HX2.out
  go_wp2_with fail
  refine (eqf gf gp _).mono ?_
  rintro e w6 ⟨rfl, hx⟩
  replace hx := hx5.trans (hx.mono hx5.size)
  replace t0 := cell_later hx t0; replace t1 := cell_later hx t1
  replace x0 := cell_later hx x0; replace x1 := cell_later hx x1
  replace hb := hb.trans (hx.mono hb.size)
  replace HR2 : Hid (Row w6 g2 ps.length ps) := HR2.out.later hx
  clear hx hx5 p0 p1 p2 p3 p4 p5 p6 p7 p8 p9 p10 p11 HX0 HX1 HX2
  go_wp2_with fail
  go_region_with (first | (go_at_call 37; refine (tot_arg sv ps tu _ (TA.out.later (hb.trans ((Below.refl _ _).drew))) hlen).mono ?_; rintro e w7 ⟨⟨g3, hg3, rfl, hR3⟩, hx⟩; replace hx := und1 hx; have HR3 : Hid (Row w7 g3 ps.length ps) := hR3; replace HR2 : Hid (Row w7 g2 ps.length ps) := HR2.out.later hx; replace x0 := cell_later hx x0; replace x1 := cell_later hx x1; replace hb := hb.trans (hx.mono hb.size); clear hx hR3) | (go_at_call 39; refine (eqt_some g2 0 ps.length g3 0 ps.length ps.length tu ps _ rfl (HR2.out.at rfl) (HR3.out.at rfl) hlen).mono ?_; rintro e w8 ⟨rfl, hx⟩; replace hb := hb.trans (hx.mono hb.size); clear hx))
  all_goals
    go_wp2_with fail
    go_ret
    exact ⟨rfl, hb⟩

/-! The row's step. -/
theorem own : ownKnob Try.prog.godebug = none := by kernel_rfl
theorem laidOut : laidOutB Try.prog = true := by kernel_rfl
set_option maxRecDepth 100000 in
theorem lifted (os : Os) (started : os.Started) (H : Type) (enc : TypeId × Value → H) :
    ReturnsInHanded {} Try.checked os 11 .any (Rows.fnExactAfterSpec.pre6 enc Try.prog Try.f11 Rows.fnExactAfterRow.domain false) (Rows.fnExactAfterSpec.post enc Try.prog Try.f11 false true false false) := by
  refine returnsInHanded_of_change (C := Try.checked) own started (by kernel_rfl) Try.func11
    (ChangeSpec.witness6 (enc := enc) (C := Try.checked) false ⟨#[], #[.agg #[.slice none 0 0, .int .i64 0], .int .i64 0], []⟩ 8 (by kernel_rfl) (by kernel_rfl) (by kernel_rfl) (by kernel_rfl)) ?_
  intro W base args ds gs before hval0 hW hcnd _
  have hval : ∀ (j : Nat) t v, Try.f11.params[j]? = some t → args[j]? = some v → Value.okWide Try.prog W .any base t v := hval0
  have hW' := hW
  obtain ⟨p, q, hA0, hV, rfl, hfz, hnd⟩ := hW
  have hA : DataW.TrodAll enc Try.prog W 0 (fun _ => true) true Try.f11.params.toList args.toList ds p := hA0
  rw [Try.params11] at hA hval
  obtain ⟨v0, vs0, d0, ds0, p0, q0, hargs, rfl, rfl, h0, r0⟩ := trodAll_cons hA
  obtain ⟨v1, vs1, d1, ds1, p1, q1, rfl, rfl, rfl, h1, r1⟩ := trodAll_cons r0
  obtain ⟨rfl, rfl, rfl⟩ := trodAll_nil r1
  obtain rfl : args = #[v0, v1] := by cases args; simp_all
  obtain ⟨rfl, rfl⟩ := trodVars_none hV
  have k0 := h0
  have lt0 : ∀ x ∈ p0, x.block < W.heap.size := by obtain ⟨m, hm⟩ := k0; exact DataW.trod_lt m _ _ _ hm
  obtain ⟨sv_0, tu_0, ps_0, rfl, ta0, po0, pl0, wt0⟩ := open_table (hval 0 50 v0 rfl rfl) h0
  clear h0
  obtain ⟨o_1, rfl, rfl, rfl, wo1⟩ := open_int Try.underlying3 (hval 1 3 v1 rfl rfl) h1
  clear hA0 hval0 hval
  refine (walk sv_0 tu_0 ps_0 o_1 W ta0 po0 pl0 wt0 wo1).mono fun e W' ⟨he, bel⟩ => ?_
  subst he
  exact ⟨_, rfl, _, _, _, [], _, [], hW', trodAll_mk1 (shut_bool Try.underlying4 _), (trodAll_cons_mk (Below.trod laidOut (by kernel_rfl) (of_decide_eq_true (by kernel_rfl)) k0 bel lt0) (trodAll_cons_mk (shut_int Try.underlying3 wo1) trodAll_mk0)), rfl, bel.frame _, fun h => by cases h⟩

theorem over : Rows.fnExactAfterRow.holds Try.pinned (OpenSpec.ofChange Rows.fnExactAfterSpec) :=
  OpenClaim.holds_of_wide 11 Try.f11 rfl rfl rfl rfl rfl rfl rfl ⟨rfl, rfl, rfl, rfl, rfl⟩ rfl rfl rfl rfl rfl (by kernel_rfl) Try.func11 (by kernel_rfl)
    (of_decide_eq_true (by kernel_rfl)) (by unfold Func.isWrapper; first | (rw [if_pos (by decide +kernel)]; kernel_rfl) | (rw [if_neg (by decide +kernel)]; exact ⟨rfl, rfl⟩))
    (fun os started H enc _ => lifted os started H enc)

end Go.Proofs.Ytkipmogmejfmcaa.lawAfter
namespace Go.Proofs.Ytkipmogmejfmcaa
theorem after_holds : Rows.FnExactAfterSaid := lawAfter.over
#print axioms after_holds
end Go.Proofs.Ytkipmogmejfmcaa
