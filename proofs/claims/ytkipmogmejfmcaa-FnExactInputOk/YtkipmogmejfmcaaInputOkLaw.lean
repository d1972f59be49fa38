/-
  OWN WORK. The law FnExactInputOk.
-/
import Derived.Test.YtkipmogmejfmcaaYInA
import Derived.Test.YtkipmogmejfmcaaYInC
import Derived.Deep.Slices
import Derived.Deep.Strs
import Derived.DataShut
import Derived.ChangeSame
namespace Go.Proofs.Ytkipmogmejfmcaa.lawInputOk
open Go.ChangeShapes Go.WideShapes Go.ChangeAt Go.RowKit
set_option linter.unusedVariables false

theorem spot_none {w : World} {a : Addr} {v : Value} (h : w.cell? a = some v) : a = ⟨a.block, a.off, none⟩ := by
  obtain ⟨b, o, s⟩ := a
  cases s with
  | none => rfl
  | some x =>
    unfold World.cell? at h
    split at h
    · simp at h
    · cases h
theorem list5 {α : Type} {cs : List α} (h : cs.length = 5) : ∃ c0 c1 c2 c3 c4, cs = [c0, c1, c2, c3, c4] := by
  match cs, h with
  | [c0, c1, c2, c3, c4], _ => exact ⟨c0, c1, c2, c3, c4, rfl⟩

section
variable {H : Type} {enc : TypeId × Value → H} {w : World} {base : Nat} {spare : Nat → Bool} {held : Bool}

theorem k_int : Try.prog.cellsOf 3 = 1 := by kernel_rfl
theorem k_str : Try.prog.cellsOf 9 = 1 := by kernel_rfl
theorem k_sl : Try.prog.cellsOf 30 = 1 := by kernel_rfl

theorem open_str {fuel : Nat} {cs : List Value} {x : DataW H × List MemPlace} (h : DataW.trod enc Try.prog w base spare held fuel 9 cs = some x) : ∃ v : ByteArray, cs = SC v ∧ v.size ≤ maxLen := by
  obtain ⟨s, e0, _, ws⟩ := DataW.trod_string Try.underlying9 h
  exact ⟨s, e0, ws⟩

/-- A list that came in, by what its elements are. -/
theorem open_sl {α : Type} (x0 : α) (cells : α → List Value) (k : Nat) (P : α → Prop) (st et : TypeId) (hu : Try.prog.underlying st = some (.slice et)) (hk : Try.prog.cellsOf et = k) (hk0 : 0 < k) (hlen : ∀ x, (cells x).length = k)
    (ho : ∀ (fuel : Nat) (cs : List Value) (x : DataW H × List MemPlace), DataW.trod enc Try.prog w 0 spare held fuel et cs = some x → ∃ v, cs = cells v ∧ P v)
    {fuel : Nat} {sv : Value} {x : DataW H × List MemPlace} (h : DataW.trod enc Try.prog w 0 spare held fuel st [sv] = some x) :
    ∃ (a : Option Addr) (cap : Nat) (xs : List α), sv = .slice a xs.length cap ∧ SlA w k cells a xs ∧ (∀ v ∈ xs, P v) ∧ xs.length ≤ maxLen := by
  rcases Deep.open_slice hu h with ⟨h0, _⟩ | ⟨a, len, cap, m, n, D, Pl, h0, hb, hl, hm, hmm, hx, hi⟩
  · simp only [List.cons.injEq, and_true] at h0
    exact ⟨none, 0, [], h0, SlA.nil _ _ _ _, by simp, by simp⟩
  · simp only [List.cons.injEq, and_true] at h0
    subst h0
    rw [hk] at hi
    have hlm : len ≤ m := by rw [hmm]; split <;> omega
    by_cases hz : len = 0
    · subst hz
      exact ⟨some a, cap, [], rfl, SlA.nil _ _ _ _, by simp, by simp⟩
    · haveI : Inhabited α := ⟨x0⟩
      obtain ⟨f, hf⟩ := Deep.choose_lt (α := α) (n := len) (p := fun i p => P p ∧ ∀ j v, (cells p)[j]? = some v → w.cell? (a.add (i * k + j)) = some v) (fun i hil => by
        obtain ⟨cs, h1, h2⟩ := hi i (by omega)
        obtain ⟨p, rfl, hp⟩ := ho _ _ _ h2
        obtain ⟨_, _, h3⟩ := World.cells?_some h1
        refine ⟨p, hp, fun j v hv => ?_⟩
        have hj : j < k := by have := (List.getElem?_eq_some_iff.1 hv).1; rw [hlen] at this; exact this
        rw [← Deep.add_add, h3 j hj]; exact hv)
      have h1 : (cells (f 0))[0]? = some ((cells (f 0))[0]'(by rw [hlen]; exact hk0)) := List.getElem?_eq_getElem _
      have h00 := (hf 0 (by omega)).2 0 _ h1
      have ha : a = ⟨a.block, a.off, none⟩ := spot_none (w := w) (by simpa [Addr.add] using h00)
      have hlt' : a.block < w.heap.size := World.block_lt_of_cell? _ _ (by simpa [Addr.add] using h00)
      refine ⟨some a, cap, (List.range len).map f, ?_, ?_, ?_, ?_⟩
      · rw [List.length_map, List.length_range]
      · intro i p hip
        simp only [List.getElem?_map, Option.map_eq_some_iff] at hip
        obtain ⟨i', hi', rfl⟩ := hip
        have hil : i < len := by
          have := (List.getElem?_eq_some_iff.1 hi').1
          simpa using this
        rw [List.getElem?_range hil] at hi'
        cases hi'
        refine ⟨a.block, a.off, by rw [← ha], hlt', fun j v hv => ?_⟩
        have := (hf i hil).2 j v hv
        rw [ha, Addr.add_lit] at this
        rw [Nat.add_assoc]; exact this
      · intro p hp
        simp only [List.mem_map, List.mem_range] at hp
        obtain ⟨i, hil, rfl⟩ := hp
        exact (hf i hil).1
      · rw [List.length_map, List.length_range]; omega


theorem open_texts {fuel : Nat} {sv : Value} {x : DataW H × List MemPlace} (h : DataW.trod enc Try.prog w 0 spare held fuel 30 [sv] = some x) :
    ∃ (a : Option Addr) (cap : Nat) (xs : List ByteArray), sv = .slice a xs.length cap ∧ SlA w 1 SC a xs ∧ (∀ v ∈ xs, v.size ≤ maxLen) ∧ xs.length ≤ maxLen :=
  open_sl ByteArray.empty SC 1 (fun v => v.size ≤ maxLen) 30 9 Try.underlying30 k_str (by omega) SC.len (fun fuel cs x h => open_str h) h

set_option maxRecDepth 100000 in
theorem open_input {r : Reach} {b0 : Nat} {v : Value} {d : DataW H} {p : List MemPlace} (hv : Value.okWide Try.prog w r b0 32 v) (h : DataW.Trod enc Try.prog w 0 spare held 32 v d p) :
    ∃ (a1 a2 : Option Addr) (c1 c2 : Nat) (xs ys : List ByteArray) (t d c : Int), v = .agg (INV a1 a2 xs.length ys.length c1 c2 t d c) ∧ SlA w 1 SC a1 xs ∧ (∀ v ∈ xs, v.size ≤ maxLen) ∧ xs.length ≤ maxLen ∧ SlA w 1 SC a2 ys ∧ (∀ v ∈ ys, v.size ≤ maxLen) ∧ ys.length ≤ maxLen := by
  obtain ⟨cs, rfl, hsz⟩ := okWide_struct Try.underlying32 hv
  have hC : Try.prog.cellsOf 32 = 5 := by kernel_rfl
  obtain ⟨c0, c1, c2, c3, c4, rfl⟩ := array5 (hsz.trans hC)
  obtain ⟨fuel, hf⟩ := h
  obtain ⟨y0, y1, y2, y3, y4, n, _, hl, t0, t1, t2, t3, t4⟩ := trod_struct5 Try.underlying32 hf
  simp only [Value.cells, k_int, k_sl, List.drop_zero, List.drop_succ_cons, List.take_succ_cons, List.take_zero] at t0 t1 t2 t3 t4
  obtain ⟨t, e2, _, _⟩ := DataW.trod_int Try.underlying3 t2
  obtain ⟨d', e3, _, _⟩ := DataW.trod_int Try.underlying3 t3
  obtain ⟨c, e4, _, _⟩ := DataW.trod_int Try.underlying3 t4
  simp only [List.cons.injEq, and_true] at e2 e3 e4
  subst e2 e3 e4
  obtain ⟨a1, k1, xs, rfl, h1, h2, h3⟩ := open_texts t0
  obtain ⟨a2, k2, ys, rfl, h4, h5, h6⟩ := open_texts t1
  exact ⟨a1, a2, k1, k2, xs, ys, t, d', c, rfl, h1, h2, h3, h4, h5, h6⟩
end

set_option maxRecDepth 20000 in
set_option maxHeartbeats 4000000 in
theorem walk (a1 a2 : Option Addr) (c1 c2 : Nat) (xs ys : List ByteArray) (t d c : Int) (w : World) (p1 : SlA w 1 SC a1 xs) (o1 : ∀ v ∈ xs, v.size ≤ maxLen) (l1 : xs.length ≤ maxLen) (p2 : SlA w 1 SC a2 ys) (o2 : ∀ v ∈ ys, v.size ≤ maxLen) (l2 : ys.length ≤ maxLen) :
    Calls Try.prog 5 #[.agg (INV a1 a2 xs.length ys.length c1 c2 t d c)] w fun e w' => e = .returned (.bool true) ∧ Below w.heap.size w w' := by
  obtain ⟨n1, hn1⟩ : ∃ n, xs.length = n := ⟨_, rfl⟩
  obtain ⟨n2, hn2⟩ : ∃ n, ys.length = n := ⟨_, rfl⟩
  rw [hn1, hn2]
  rw [hn1] at l1
  rw [hn2] at l2
  obtain ⟨R, hR⟩ : ∃ R, okV xs ys t d c = R := ⟨_, rfl⟩
  have ZI : Hid (∀ W, Below w.heap.size w W → Calls Try.prog 21 #[.agg (INV a1 a2 n1 n2 c1 c2 t d c), .int .i64 1048576] W fun e w' => (∃ r, e = .returned (.int .i64 r) ∧ (r = -1 ∨ (0 ≤ r ∧ r ≤ 1048576 - n1 - n2))) ∧ Below W.heap.size W w') := fun W hb => szi_any a1 a2 n1 n2 c1 c2 xs ys t d c 1048576 W hn1 (p1.later hb) o1 l1 hn2 (p2.later hb) o2 l2 (by omega) (by omega)
  have TI : Hid (n1 ≤ 1048576 → n2 ≤ 1048576 → ∀ W, Below w.heap.size w W → Calls Try.prog 23 #[.agg (INV a1 a2 n1 n2 c1 c2 t d c)] W fun e w' => (∃ v, e = .returned v ∧ InCp W.heap.size w' n1 n2 xs ys t d c v) ∧ Below W.heap.size W w') := fun k1 k2 W hb => toin_any a1 a2 n1 n2 c1 c2 xs ys t d c W hn1 (p1.later hb) k1 hn2 (p2.later hb) k2
  have SI : Hid (n1 ≤ 1048576 → n2 ≤ 1048576 → ∀ (W : World) (lo g1 g2 : Nat), RowG W g1 1 9 SC xs → RowG W g2 1 9 SC ys → Calls Try.prog 22 #[.agg (INV (some ⟨g1, 0, none⟩) (some ⟨g2, 0, none⟩) n1 n2 n1 n2 t d c)] W fun e w' => e = .returned (.bool R) ∧ Below W.heap.size W w') := fun k1 k2 W lo g1 g2 r1 r2 => by rw [← hR]; exact sin_any _ _ n1 n2 n1 n2 xs ys t d c W hn1 r1.at o1 k1 hn2 r2.at o2 k2
  have II : Hid (n1 ≤ 1048576 → n2 ≤ 1048576 → ∀ (W : World) (lo g1 g2 : Nat), RowG W g1 1 9 SC xs → RowG W g2 1 9 SC ys → Calls Try.prog 24 #[.agg (INV (some ⟨g1, 0, none⟩) (some ⟨g2, 0, none⟩) n1 n2 n1 n2 t d c)] W fun e w' => e = .returned (.bool R) ∧ Below W.heap.size W w') := fun k1 k2 W lo g1 g2 r1 r2 => by rw [← hR]; exact iin_any _ _ n1 n2 n1 n2 xs ys t d c W hn1 r1.at o1 k1 hn2 r2.at o2 k2
  have EI : Hid (n1 ≤ 1048576 → n2 ≤ 1048576 → ∀ (W : World) (g1 g2 g3 g4 : Nat), RowG W g1 1 9 SC xs → RowG W g2 1 9 SC ys → RowG W g3 1 9 SC xs → RowG W g4 1 9 SC ys → Calls Try.prog 25 #[.agg (INV (some ⟨g1, 0, none⟩) (some ⟨g2, 0, none⟩) n1 n2 n1 n2 t d c), .agg (INV (some ⟨g3, 0, none⟩) (some ⟨g4, 0, none⟩) n1 n2 n1 n2 t d c)] W fun e w' => e = .returned (.bool true) ∧ Below W.heap.size W w') := fun k1 k2 W g1 g2 g3 g4 r1 r2 r3 r4 => eqin_any _ _ _ _ n1 n2 n1 n2 n1 n2 xs ys t d c W hn1 r1.at r3.at k1 hn2 r2.at r4.at k2
  clear hn1 hn2 p1 p2 o1 o2 hR l1 l2
  go_enter Try.func5, Try.ntmps5
  go_wp2_with fail
  refine (ZI.out _ (bw1 _ _)).mono ?_
  rintro e w1 ⟨⟨r, rfl, hr⟩, hx⟩
  obtain ⟨hb, t0, t1, t2, t3, t4⟩ := box5 hx
  clear hx
  rcases hr with rfl | ⟨hr0, hr1⟩
  · go_wp2_with fail
    go_ret
    exact ⟨rfl, hb⟩
  replace TI : Hid _ := TI.out (by omega) (by omega)
  replace SI : Hid _ := SI.out (by omega) (by omega)
  replace II : Hid _ := II.out (by omega) (by omega)
  replace EI : Hid _ := EI.out (by omega) (by omega)
  go_wp2_with fail
  refine (TI.out _ hb).mono ?_
  rintro e w2 ⟨⟨v, rfl, g1, g2, rfl, _, _, r1, r2⟩, hx⟩
  replace hb := hb.trans (hx.mono hb.size)
  replace t0 := cell_later hx t0; replace t1 := cell_later hx t1; replace t2 := cell_later hx t2; replace t3 := cell_later hx t3; replace t4 := cell_later hx t4
  have K : Hid _ := SI.out _ 0 g1 g2 r1 r2
  clear hx r1 r2 SI
  go_wp2_with fail
  refine Calls.mono K.out ?_
  rintro e w3 ⟨rfl, hx⟩
  replace hb := hb.trans (hx.mono hb.size)
  replace t0 := cell_later hx t0; replace t1 := cell_later hx t1; replace t2 := cell_later hx t2; replace t3 := cell_later hx t3; replace t4 := cell_later hx t4
  clear hx K
  go_wp2_with fail
  refine (TI.out _ hb).mono ?_
  rintro e w4 ⟨⟨v, rfl, g3, g4, rfl, _, _, r3, r4⟩, hx⟩
  replace hb := hb.trans (hx.mono hb.size)
  replace t0 := cell_later hx t0; replace t1 := cell_later hx t1; replace t2 := cell_later hx t2; replace t3 := cell_later hx t3; replace t4 := cell_later hx t4
  have R3 : Hid (RowG w4 g3 1 9 SC xs) := r3
  have R4 : Hid (RowG w4 g4 1 9 SC ys) := r4
  clear hx r3 r4
  go_wp2_with fail
  refine (II.out _ 0 g3 g4 (R3.out.later (bw1 _ _)) (R4.out.later (bw1 _ _))).mono ?_
  rintro e w5 ⟨rfl, hy⟩
  have hy' := (bw1 _ _).trans (hy.mono (by simp))
  replace R3 : Hid (RowG w5 g3 1 9 SC xs) := R3.out.later hy'
  replace R4 : Hid (RowG w5 g4 1 9 SC ys) := R4.out.later hy'
  obtain ⟨hx, x0, x1, x2, x3, x4⟩ := box5 hy
  replace hb := hb.trans (hx.mono hb.size)
  replace t0 := cell_later hx t0; replace t1 := cell_later hx t1; replace t2 := cell_later hx t2; replace t3 := cell_later hx t3; replace t4 := cell_later hx t4
  clear hx hy hy' II
  go_wp2_with fail
  go_region_with (first | (go_at_call 23; refine (TI.out _ (hb.trans ((Below.refl _ _).drew))).mono ?_; rintro e w6 ⟨⟨v, rfl, g5, g6, rfl, _, _, r5, r6⟩, hx⟩; replace hx := und1 hx; have R5 : Hid (RowG w6 g5 1 9 SC xs) := r5; have R6 : Hid (RowG w6 g6 1 9 SC ys) := r6; replace R3 : Hid (RowG w6 g3 1 9 SC xs) := R3.out.later hx; replace R4 : Hid (RowG w6 g4 1 9 SC ys) := R4.out.later hx; replace x0 := cell_later hx x0; replace x1 := cell_later hx x1; replace x2 := cell_later hx x2; replace x3 := cell_later hx x3; replace x4 := cell_later hx x4; replace hb := hb.trans (hx.mono hb.size); clear hx r5 r6) | (go_at_call 25; refine (EI.out _ g3 g4 g5 g6 R3.out R4.out R5.out R6.out).mono ?_; rintro e w7 ⟨rfl, hx⟩; replace hb := hb.trans (hx.mono hb.size); clear hx))
  all_goals
    go_wp2_with fail
    go_ret
    exact ⟨rfl, hb⟩

/-! The row's step. -/
theorem own : ownKnob Try.prog.godebug = none := by kernel_rfl
theorem laidOut : laidOutB Try.prog = true := by kernel_rfl
set_option maxRecDepth 100000 in
theorem lifted (os : Os) (started : os.Started) (H : Type) (enc : TypeId × Value → H) :
    ReturnsInHanded {} Try.checked os 5 .any (Rows.fnExactInputOkSpec.pre6 enc Try.prog Try.f5 Rows.fnExactInputOkRow.domain false) (Rows.fnExactInputOkSpec.post enc Try.prog Try.f5 false true false false) := by
  refine returnsInHanded_of_change (C := Try.checked) own started (by kernel_rfl) Try.func5
    (ChangeSpec.witness6 (enc := enc) (C := Try.checked) false ⟨#[], #[.agg #[.slice none 0 0, .slice none 0 0, .int .i64 0, .int .i64 0, .int .i64 0]], []⟩ 8 (by kernel_rfl) (by kernel_rfl) (by kernel_rfl) (by kernel_rfl)) ?_
  intro W base args ds gs before hval0 hW hcnd _
  have hval : ∀ (j : Nat) t v, Try.f5.params[j]? = some t → args[j]? = some v → Value.okWide Try.prog W .any base t v := hval0
  have hW' := hW
  obtain ⟨p, q, hA0, hV, rfl, hfz, hnd⟩ := hW
  have hA : DataW.TrodAll enc Try.prog W 0 (fun _ => true) true Try.f5.params.toList args.toList ds p := hA0
  rw [Try.params5] at hA hval
  obtain ⟨v0, vs0, d0, ds0, p0, q0, hargs, rfl, rfl, h0, r0⟩ := trodAll_cons hA
  obtain ⟨rfl, rfl, rfl⟩ := trodAll_nil r0
  obtain rfl : args = #[v0] := by cases args; simp_all
  obtain ⟨rfl, rfl⟩ := trodVars_none hV
  have k0 := h0
  have lt0 : ∀ x ∈ p0, x.block < W.heap.size := by obtain ⟨m, hm⟩ := k0; exact DataW.trod_lt m _ _ _ hm
  obtain ⟨a1_0, a2_0, c1_0, c2_0, xs_0, ys_0, t_0, d_0, c_0, rfl, z1_0, z2_0, z3_0, z4_0, z5_0, z6_0⟩ := open_input (hval 0 32 v0 rfl rfl) h0
  clear h0
  clear hA0 hval0 hval
  refine (walk a1_0 a2_0 c1_0 c2_0 xs_0 ys_0 t_0 d_0 c_0 W z1_0 z2_0 z3_0 z4_0 z5_0 z6_0).mono fun e W' ⟨he, bel⟩ => ?_
  subst he
  exact ⟨_, rfl, _, _, _, [], _, [], hW', trodAll_mk1 (shut_bool Try.underlying4 _), (trodAll_cons_mk (Below.trod laidOut (by kernel_rfl) (of_decide_eq_true (by kernel_rfl)) k0 bel lt0) trodAll_mk0), rfl, bel.frame _, fun h => by cases h⟩

theorem over : Rows.fnExactInputOkRow.holds Try.pinned (OpenSpec.ofChange Rows.fnExactInputOkSpec) :=
  OpenClaim.holds_of_wide 5 Try.f5 rfl rfl rfl rfl rfl rfl rfl ⟨rfl, rfl, rfl, rfl, rfl⟩ rfl rfl rfl rfl rfl (by kernel_rfl) Try.func5 (by kernel_rfl)
    (of_decide_eq_true (by kernel_rfl)) (by unfold Func.isWrapper; first | (rw [if_pos (by decide +kernel)]; kernel_rfl) | (rw [if_neg (by decide +kernel)]; exact ⟨rfl, rfl⟩))
    (fun os started H enc _ => lifted os started H enc)

end Go.Proofs.Ytkipmogmejfmcaa.lawInputOk
namespace Go.Proofs.Ytkipmogmejfmcaa
theorem inputOk_holds : Rows.FnExactInputOkSaid := lawInputOk.over
#print axioms inputOk_holds
end Go.Proofs.Ytkipmogmejfmcaa
