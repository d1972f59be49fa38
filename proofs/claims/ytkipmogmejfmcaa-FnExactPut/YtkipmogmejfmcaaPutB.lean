import Derived.Test.YtkipmogmejfmcaaTabSp
import Derived.Deep.Slices
import Derived.Deep.Strs
import Derived.DataShut
import Derived.ChangeSame
import Derived.Test.YtkipmogmejfmcaaPutA
/-
  OWN WORK. Tables: After of the specification, whole; sizes and copies of a table without pairs.
-/
namespace Go.Proofs.Ytkipmogmejfmcaa
open Go.RowKit
attribute [local go_sem] run_store_float
set_option linter.unusedVariables false

set_option maxRecDepth 20000 in
set_option maxHeartbeats 1000000 in
theorem afts_bad (b off len cap : Nat) (ps : List PD) (turns turn : Int) (w : World) (hl : ps.length = len) (hp : PAt w b off ps) (hlen : len ≤ 1048576) (hok : ∀ p ∈ ps, p.ok) (ht : tokV ps turns = false) :
    Calls Try.prog 40 #[.agg #[.slice (some ⟨b, off, none⟩) len cap, .int .i64 turns], .int .i64 turn] w fun e w' => e = .returned (FV false pd0) ∧ Below w.heap.size w w' := by
  have HP : Hid (PAt w b off ps) := hp
  clear hp
  go_enter Try.func40, Try.ntmps40
  go_wp2_with fail
  refine (tok_any b off len cap ps turns _ hl (by exact HP.out.later (bw2 _ _ _)) hlen hok).mono ?_
  rintro e w1 ⟨rfl, hx⟩
  obtain ⟨h0, h1⟩ := heap2 w (.cells #[.slice (some ⟨b, off, none⟩) len cap, .int .i64 turns] 55) (.cells #[.bool false, .int .i64 0, .int .i64 0, .float .f64 0, .string ⟨#[]⟩, .int .i64 0, .int .i64 0, .int .i64 0, .float .f64 0, .string ⟨#[]⟩, .int .i64 0, .int .i64 0] 62)
  have sl : Slot12 w1 (w.heap.size + 1) := ⟨_, _, (hx.block (w.heap.size + 1) (by simp)).trans h1, rfl⟩
  have hb := (bw2 _ _ _).trans (hx.mono (by simp; omega))
  clear hx h0 h1
  obtain ⟨v0, v1, v2, v3, v4, v5, v6, v7, v8, v9, v10, v11, d0, d1, d2, d3, d4, d5, d6, d7, d8, d9, d10, d11, z, hz⟩ := sl.cells
  go_wp2_with fail
  exact bodyPost_ret (v := FV false pd0) (by simp [results, Try.results40, go_sem, d0, d1, d2, d3, d4, d5, d6, d7, d8, d9, d10, d11, pd0]) rfl ⟨rfl, below12 hb (by omega) _ _ _ _ _ _ _ _ _ _ _ _⟩

set_option maxRecDepth 20000 in
set_option maxHeartbeats 1000000 in
theorem afts_ok (b off len cap : Nat) (ps : List PD) (turns turn : Int) (w : World) (hl : ps.length = len) (hp : PAt w b off ps) (hlen : len ≤ 1048576) (hok : ∀ p ∈ ps, p.ok) (ht : tokV ps turns = true) :
    Calls Try.prog 40 #[.agg #[.slice (some ⟨b, off, none⟩) len cap, .int .i64 turns], .int .i64 turn] w fun e w' => e = .returned (FV (aft turn ps).isSome ((aft turn ps).getD pd0)) ∧ Below w.heap.size w w' := by
  have HP : Hid (PAt w b off ps) := hp
  clear hp
  obtain ⟨gf, hgf⟩ : ∃ gf, gf = (aft turn ps).isSome := ⟨_, rfl⟩
  obtain ⟨p, hgp⟩ : ∃ p, p = (aft turn ps).getD pd0 := ⟨_, rfl⟩
  rw [← hgf, ← hgp]
  have HF : Hid (gf = (aft turn ps).isSome) := hgf
  have HG : Hid (p = (aft turn ps).getD pd0) := hgp
  clear hgf hgp
  go_enter Try.func40, Try.ntmps40
  go_wp2_with fail
  refine (tok_any b off len cap ps turns _ hl (by exact HP.out.later (bw2 _ _ _)) hlen hok).mono ?_
  rintro e w1 ⟨rfl, hx⟩
  obtain ⟨h0, h1⟩ := heap2 w (.cells #[.slice (some ⟨b, off, none⟩) len cap, .int .i64 turns] 55) (.cells #[.bool false, .int .i64 0, .int .i64 0, .float .f64 0, .string ⟨#[]⟩, .int .i64 0, .int .i64 0, .int .i64 0, .float .f64 0, .string ⟨#[]⟩, .int .i64 0, .int .i64 0] 62)
  have sl : Slot12 w1 (w.heap.size + 1) := ⟨_, _, (hx.block (w.heap.size + 1) (by simp)).trans h1, rfl⟩
  have b0 := (hx.block w.heap.size (by simp; omega)).trans h0
  have t0 : w1.cell? ⟨w.heap.size, 0, none⟩ = some (.slice (some ⟨b, off, none⟩) len cap) := by rw [blk_cell b0]; rfl
  have t1 : w1.cell? ⟨w.heap.size, 1, none⟩ = some (.int .i64 turns) := by rw [blk_cell b0]; rfl
  have hb := (bw2 _ _ _).trans (hx.mono (by simp; omega))
  clear hx h0 h1 b0
  go_wp2_with fail
  refine (aft_any b off len cap ps turns turn _ hl (by exact HP.out.later hb) hlen hok).mono ?_
  rw [← HF.out, ← HG.out]
  rintro e w2 ⟨rfl, hx⟩
  replace hb := hb.trans (hx.mono hb.size)
  replace sl := Slot12.later hx sl
  clear hx t0 t1
  obtain ⟨v0, v1, v2, v3, v4, v5, v6, v7, v8, v9, v10, v11, d0, d1, d2, d3, d4, d5, d6, d7, d8, d9, d10, d11, z, hz⟩ := sl.cells
  go_wp2_with fail
  exact bodyPost_ret (v := FV gf p) (by simp [results, Try.results40, go_sem, d0, d1, d2, d3, d4, d5, d6, d7, d8, d9, d10, d11]) rfl ⟨rfl, below12 hb (by omega) _ _ _ _ _ _ _ _ _ _ _ _⟩

set_option maxRecDepth 20000 in
set_option maxHeartbeats 400000 in
theorem szt_nil (turns l : Int) (w : World) (h0 : 0 ≤ l) (h1 : l ≤ 1048576) :
    Calls Try.prog 35 #[.agg #[.slice none 0 0, .int .i64 turns], .int .i64 l] w fun e w' => (∃ r, e = .returned (.int .i64 r) ∧ (r = -1 ∨ (0 ≤ r ∧ r ≤ l - (0 : Nat)))) ∧ Below w.heap.size w w' := by
  go_enter Try.func35, Try.ntmps35
  go_wp2_with fail
  refine (szs_nil l _ h0 h1).mono ?_
  rintro e w1 ⟨⟨r, rfl, hr⟩, hx⟩
  have hb := (bw1 _ _).trans (hx.mono (by simp))
  rcases hr with rfl | ⟨hr0, hr1⟩
  · go_wp2_with fail
    go_ret
    exact ⟨⟨-1, rfl, .inl rfl⟩, hb⟩
  · go_wp2_with fail
    go_ret
    exact ⟨⟨r, rfl, .inr ⟨hr0, hr1⟩⟩, hb⟩

set_option maxRecDepth 20000 in
set_option maxHeartbeats 400000 in
theorem tos_nil (w : World) :
    Calls Try.prog 78 #[.slice none 0 0] w fun e w' => e = .returned (.slice (some ⟨w.heap.size, 0, none⟩) 0 0) ∧ Below w.heap.size w w' ∧ Row w' w.heap.size 0 [] := by
  obtain ⟨arr, hsz, hmk⟩ := make_pairs 0 (by omega) w
  have hmk' : (Instr.makeSlice 53 (.int .i64 0) (.int .i64 0)).run Try.prog w = .ok (.slice (some ⟨w.heap.size, 0, none⟩) 0 0) (w.alloc (.cells arr 60)) := hmk
  clear hmk
  go_enter Try.func78, Try.ntmps78
  go_wp2_with fail
  clear hmk'
  refine wp_loop_rounds 1 ?_
  rw [rounds_succ]
  go_wp2_with fail
  go_ret
  exact ⟨rfl, bw1 _ _, arr, by show (w.heap.push _)[w.heap.size]? = _; rw [Array.getElem?_push, if_pos rfl], hsz, fun i q hi => absurd hi (Nat.not_lt_zero _)⟩
end Go.Proofs.Ytkipmogmejfmcaa

/-
  OWN WORK. Tables: the law's argument, whatever it is: its size, its copy.
-/
namespace Go.Proofs.Ytkipmogmejfmcaa
open Go.RowKit
attribute [local go_sem] run_store_float
set_option linter.unusedVariables false

set_option maxRecDepth 20000 in
set_option maxHeartbeats 400000 in
theorem szs_none (a : Option Addr) (cap : Nat) (l : Int) (w : World) (h0 : 0 ≤ l) (h1 : l ≤ 1048576) :
    Calls Try.prog 76 #[.slice a 0 cap, .int .i64 l] w fun e w' => (∃ r, e = .returned (.int .i64 r) ∧ (r = -1 ∨ (0 ≤ r ∧ r ≤ l - (0 : Nat)))) ∧ Below w.heap.size w w' := by
  go_enter Try.func76, Try.ntmps76
  go_wp2_with fail
  refine wp_loop_rounds 1 ?_
  rw [rounds_succ]
  go_wp2_with fail
  go_ret
  exact ⟨⟨_, rfl, .inr ⟨by omega, by omega⟩⟩, Below.refl _ _⟩

set_option maxRecDepth 20000 in
set_option maxHeartbeats 400000 in
theorem szt_none (a : Option Addr) (cap : Nat) (turns l : Int) (w : World) (h0 : 0 ≤ l) (h1 : l ≤ 1048576) :
    Calls Try.prog 35 #[.agg #[.slice a 0 cap, .int .i64 turns], .int .i64 l] w fun e w' => (∃ r, e = .returned (.int .i64 r) ∧ (r = -1 ∨ (0 ≤ r ∧ r ≤ l - (0 : Nat)))) ∧ Below w.heap.size w w' := by
  go_enter Try.func35, Try.ntmps35
  go_wp2_with fail
  refine (szs_none a cap l _ h0 h1).mono ?_
  rintro e w1 ⟨⟨r, rfl, hr⟩, hx⟩
  have hb := (bw1 _ _).trans (hx.mono (by simp))
  rcases hr with rfl | ⟨hr0, hr1⟩
  · go_wp2_with fail
    go_ret
    exact ⟨⟨-1, rfl, .inl rfl⟩, hb⟩
  · go_wp2_with fail
    go_ret
    exact ⟨⟨r, rfl, .inr ⟨hr0, hr1⟩⟩, hb⟩

set_option maxRecDepth 20000 in
set_option maxHeartbeats 400000 in
theorem tos_none (a : Option Addr) (cap : Nat) (w : World) :
    Calls Try.prog 78 #[.slice a 0 cap] w fun e w' => e = .returned (.slice (some ⟨w.heap.size, 0, none⟩) 0 0) ∧ Below w.heap.size w w' ∧ Row w' w.heap.size 0 [] := by
  obtain ⟨arr, hsz, hmk⟩ := make_pairs 0 (by omega) w
  have hmk' : (Instr.makeSlice 53 (.int .i64 0) (.int .i64 0)).run Try.prog w = .ok (.slice (some ⟨w.heap.size, 0, none⟩) 0 0) (w.alloc (.cells arr 60)) := hmk
  clear hmk
  go_enter Try.func78, Try.ntmps78
  go_wp2_with fail
  clear hmk'
  refine wp_loop_rounds 1 ?_
  rw [rounds_succ]
  go_wp2_with fail
  go_ret
  exact ⟨rfl, bw1 _ _, arr, by show (w.heap.push _)[w.heap.size]? = _; rw [Array.getElem?_push, if_pos rfl], hsz, fun i q hi => absurd hi (Nat.not_lt_zero _)⟩

set_option maxRecDepth 20000 in
set_option maxHeartbeats 1000000 in
theorem tot_none (a : Option Addr) (cap : Nat) (turns : Int) (w : World) :
    Calls Try.prog 37 #[.agg #[.slice a 0 cap, .int .i64 turns]] w fun e w' => (∃ g, w.heap.size ≤ g ∧ e = .returned (.agg #[.slice (some ⟨g, 0, none⟩) 0 0, .int .i64 turns]) ∧ Row w' g 0 []) ∧ Below w.heap.size w w' := by
  go_enter Try.func37, Try.ntmps37
  go_wp2_with fail
  refine (tos_none a cap _).mono ?_
  rintro e w1 ⟨rfl, hx, hR⟩
  obtain ⟨h30, h31, h32⟩ := heap3 w (.cells #[.slice a 0 cap, .int .i64 turns] 50) (.cells #[.slice none 0 0, .int .i64 0] 55) (.cells #[.slice none 0 0, .int .i64 0] 55)
  have b0 := (hx.block w.heap.size (by simp; omega)).trans h30
  have b1 := (hx.block (w.heap.size + 1) (by simp)).trans h31
  have b2 := (hx.block (w.heap.size + 1 + 1) (by simp)).trans h32
  have hB := (bw3 _ _ _ _).trans (hx.mono (by simp; omega))
  obtain ⟨g, hg⟩ : ∃ g, g = (((w.alloc (.cells #[.slice a 0 cap, .int .i64 turns] 50)).alloc (.cells #[.slice none 0 0, .int .i64 0] 55)).alloc (.cells #[.slice none 0 0, .int .i64 0] 55)).heap.size := ⟨_, rfl⟩
  rw [← hg] at hR ⊢
  have hg3 : w.heap.size + 3 = g := by rw [hg]; simp
  have HR : Hid (Row w1 g 0 []) := hR
  clear hR hg hx h30 h31 h32
  have a1 : w1.cell? ⟨w.heap.size, 1, none⟩ = some (.int .i64 turns) := by rw [blk_cell b0]; rfl
  have s0 : w1.cell? ⟨w.heap.size + 1, 0, none⟩ = some (.slice none 0 0) := by rw [blk_cell b1]; rfl
  have s1 : w1.cell? ⟨w.heap.size + 1, 1, none⟩ = some (.int .i64 0) := by rw [blk_cell b1]; rfl
  have o0 : w1.cell? ⟨w.heap.size + 1 + 1, 0, none⟩ = some (.slice none 0 0) := by rw [blk_cell b2]; rfl
  have o1 : w1.cell? ⟨w.heap.size + 1 + 1, 1, none⟩ = some (.int .i64 0) := by rw [blk_cell b2]; rfl
  have z1 := blk_frozen b1
  have z2 := blk_frozen b2
  clear b0 b1 b2
  have HG : Hid (w.heap.size + 3 = g) := hg3
  clear hg3
  go_wp2_with fail
  refine bodyPost_ret (v := .agg #[.slice (some ⟨g, 0, none⟩) 0 0, .int .i64 turns]) (by simp [results, Try.results37, go_sem, s0, s1]) rfl ⟨⟨g, by have := HG.out; omega, rfl, ?_⟩, ?_⟩
  · have := HG.out
    exact (((HR.out.set (by omega) _ _).set (by omega) _ _).set (by omega) _ _).set (by omega) _ _
  · exact (((hB.setCell (p := ⟨w.heap.size + 1 + 1, 0, none⟩) (by simp; omega) _).setCell (p := ⟨w.heap.size + 1 + 1, 1, none⟩) (by simp; omega) _).setCell (p := ⟨w.heap.size + 1, 0, none⟩) (by simp) _).setCell (p := ⟨w.heap.size + 1, 1, none⟩) (by simp) _

/-- The list of a table that came in. -/
def TArg (w : World) (sv : Value) (ps : List PD) : Prop :=
  (∃ a cap, sv = .slice a 0 cap ∧ ps = []) ∨ ∃ b off cap, sv = .slice (some ⟨b, off, none⟩) ps.length cap ∧ PAt w b off ps ∧ b < w.heap.size

theorem TArg.later {w wx : World} {sv : Value} {ps : List PD} (hb : Below w.heap.size w wx) (h : TArg w sv ps) : TArg wx sv ps := by
  rcases h with h | ⟨b, off, cap, h1, h2, h3⟩
  · exact .inl h
  · exact .inr ⟨b, off, cap, h1, h2.later hb, Nat.lt_of_lt_of_le h3 hb.size⟩

theorem szt_arg (sv : Value) (ps : List PD) (turns l : Int) (w : World) (h : TArg w sv ps) (hok : ∀ p ∈ ps, p.ok) (hlm : ps.length ≤ maxLen) (h0 : 0 ≤ l) (h1 : l ≤ 1048576) :
    Calls Try.prog 35 #[.agg #[sv, .int .i64 turns], .int .i64 l] w fun e w' => (∃ r, e = .returned (.int .i64 r) ∧ (r = -1 ∨ (0 ≤ r ∧ r ≤ l - ps.length))) ∧ Below w.heap.size w w' := by
  rcases h with ⟨a, cap, rfl, rfl⟩ | ⟨b, off, cap, rfl, hp, hb⟩
  · exact szt_none a cap turns l w h0 h1
  · exact szt_some b off ps.length cap ps turns l w rfl hp hok hlm hb h0 h1

theorem tot_arg (sv : Value) (ps : List PD) (turns : Int) (w : World) (h : TArg w sv ps) (hl : ps.length ≤ 1048576) :
    Calls Try.prog 37 #[.agg #[sv, .int .i64 turns]] w fun e w' => (∃ g, w.heap.size ≤ g ∧ e = .returned (.agg #[.slice (some ⟨g, 0, none⟩) ps.length ps.length, .int .i64 turns]) ∧ Row w' g ps.length ps) ∧ Below w.heap.size w w' := by
  rcases h with ⟨a, cap, rfl, rfl⟩ | ⟨b, off, cap, rfl, hp, hb⟩
  · exact tot_none a cap turns w
  · exact tot_some b off ps.length cap ps turns w rfl hp hl
end Go.Proofs.Ytkipmogmejfmcaa

/-
  OWN WORK. Tables: the law's argument opened.
-/
namespace Go.Proofs.Ytkipmogmejfmcaa
open Go.ChangeShapes Go.WideShapes Go.ChangeAt Go.RowKit
set_option linter.unusedVariables false

theorem spot_none {w : World} {a : Addr} {v : Value} (h : w.cell? a = some v) : a = ⟨a.block, a.off, none⟩ := by
  obtain ⟨b, o, s⟩ := a
  cases s with
  | none => rfl
  | some x =>
    unfold World.cell? at h
    split at h
    · simp at h
    · cases h

section
variable {H : Type} {enc : TypeId × Value → H} {w : World} {base : Nat} {spare : Nat → Bool} {held : Bool}

theorem list5 {α : Type} {cs : List α} (h : cs.length = 5) : ∃ c0 c1 c2 c3 c4, cs = [c0, c1, c2, c3, c4] := by
  match cs, h with
  | [c0, c1, c2, c3, c4], _ => exact ⟨c0, c1, c2, c3, c4, rfl⟩
theorem list11 {α : Type} {cs : List α} (h : cs.length = 11) : ∃ c0 c1 c2 c3 c4 c5 c6 c7 c8 c9 c10, cs = [c0, c1, c2, c3, c4, c5, c6, c7, c8, c9, c10] := by
  match cs, h with
  | [c0, c1, c2, c3, c4, c5, c6, c7, c8, c9, c10], _ => exact ⟨c0, c1, c2, c3, c4, c5, c6, c7, c8, c9, c10, rfl⟩

theorem open_val {fuel : Nat} {cs : List Value} {x : DataW H × List MemPlace} (h : DataW.trod enc Try.prog w base spare held fuel 24 cs = some x) : ∃ v : VD, cs = v.cells ∧ v.ok := by
  obtain ⟨y0, y1, y2, y3, y4, n, _, hl, t0, t1, t2, t3, t4⟩ := trod_struct5 Try.underlying24 h
  have hC : Try.prog.cellsOf 24 = 5 := by kernel_rfl
  have k3 : Try.prog.cellsOf 3 = 1 := by kernel_rfl
  have k2 : Try.prog.cellsOf 2 = 1 := by kernel_rfl
  have kf : Try.prog.cellsOf 22 = 1 := by kernel_rfl
  have ks : Try.prog.cellsOf 9 = 1 := by kernel_rfl
  obtain ⟨c0, c1, c2, c3, c4, rfl⟩ := list5 (hl.trans hC)
  simp only [k3, k2, kf, ks, List.drop_zero, List.drop_succ_cons, List.take_succ_cons, List.take_zero] at t0 t1 t2 t3 t4
  obtain ⟨k, e0, _, wk⟩ := DataW.trod_int Try.underlying3 t0
  obtain ⟨n', e1, _, wn⟩ := DataW.trod_int Try.underlying2 t1
  obtain ⟨f, e2, _, wf⟩ := trod_float Try.underlying22 t2
  obtain ⟨s, e3, _, ws⟩ := DataW.trod_string Try.underlying9 t3
  obtain ⟨r, e4, _, wr⟩ := DataW.trod_int Try.underlying3 t4
  simp only [List.cons.injEq, and_true] at e0 e1 e3 e4
  subst e0 e1 e2 e3 e4
  exact ⟨⟨k, n', f, s, r⟩, rfl, by simpa [Lit.wf] using wf, ws⟩

theorem open_pair {fuel : Nat} {cs : List Value} {x : DataW H × List MemPlace} (h : DataW.trod enc Try.prog w base spare held fuel 135 cs = some x) : ∃ p : PD, cs = p.cells ∧ p.ok := by
  obtain ⟨y0, y1, y2, n, _, hl, t0, t1, t2⟩ := Deep.trod_struct3 Try.underlying135 h
  have hC : Try.prog.cellsOf 135 = 11 := by kernel_rfl
  have k5 : Try.prog.cellsOf 24 = 5 := by kernel_rfl
  have k3 : Try.prog.cellsOf 3 = 1 := by kernel_rfl
  obtain ⟨c0, c1, c2, c3, c4, c5, c6, c7, c8, c9, c10, rfl⟩ := list11 (hl.trans hC)
  simp only [k3, k5, List.drop_zero, List.drop_succ_cons, List.take_succ_cons, List.take_zero] at t0 t1 t2
  obtain ⟨a, ea, ha⟩ := open_val t0
  obtain ⟨b, eb, hb⟩ := open_val t1
  obtain ⟨k, e0, _, wk⟩ := DataW.trod_int Try.underlying3 t2
  simp only [List.cons.injEq, and_true] at e0
  subst e0
  refine ⟨⟨a, b, k⟩, ?_, ha, hb, ?_⟩
  · show _ = a.cells ++ (b.cells ++ [.int .i64 k])
    rw [← ea, ← eb]; rfl
  · exact (Lit.wf_int_iff .i64 k).1 wk

/-- The list of pairs of a table that came in. -/
theorem open_row {fuel : Nat} {sv : Value} {x : DataW H × List MemPlace} (h : DataW.trod enc Try.prog w 0 spare held fuel 48 [sv] = some x) :
    ∃ ps : List PD, TArg w sv ps ∧ (∀ p ∈ ps, p.ok) ∧ ps.length ≤ maxLen := by
  rcases Deep.open_slice Try.underlying48 h with ⟨h0, _⟩ | ⟨a, len, cap, m, n, D, Pl, h0, hb, hl, hm, hmm, hx, hi⟩
  · simp only [List.cons.injEq, and_true] at h0
    exact ⟨[], .inl ⟨none, 0, h0, rfl⟩, by simp, by simp⟩
  · simp only [List.cons.injEq, and_true] at h0
    subst h0
    have hC : Try.prog.cellsOf 135 = 11 := by kernel_rfl
    rw [hC] at hi
    have hlm : len ≤ m := by rw [hmm]; split <;> omega
    by_cases hz : len = 0
    · subst hz
      exact ⟨[], .inl ⟨_, cap, rfl, rfl⟩, by simp, by simp⟩
    · haveI : Inhabited PD := ⟨pd0⟩
      obtain ⟨f, hf⟩ := Deep.choose_lt (α := PD) (n := len) (p := fun i p => p.ok ∧ ∀ j v, p.cells[j]? = some v → w.cell? (a.add (i * 11 + j)) = some v) (fun i hil => by
        obtain ⟨cs, h1, h2⟩ := hi i (by omega)
        obtain ⟨p, rfl, hp⟩ := open_pair h2
        obtain ⟨_, _, h3⟩ := World.cells?_some h1
        refine ⟨p, hp, fun j v hv => ?_⟩
        have hj : j < 11 := by have := (List.getElem?_eq_some_iff.1 hv).1; rw [cells_len] at this; exact this
        rw [← Deep.add_add, h3 j hj]; exact hv)
      have h00 := (hf 0 (by omega)).2 0 (.int .i64 (f 0).key.k) rfl
      have ha : a = ⟨a.block, a.off, none⟩ := spot_none (w := w) (by simpa [Addr.add] using h00)
      have hlt' : a.block < w.heap.size := World.block_lt_of_cell? _ _ (by simpa [Addr.add] using h00)
      refine ⟨(List.range len).map f, .inr ⟨a.block, a.off, cap, ?_, ?_, hlt'⟩, ?_, ?_⟩
      · rw [List.length_map, List.length_range, ← ha]
      · intro i p hip j v hv
        simp only [List.getElem?_map, Option.map_eq_some_iff] at hip
        obtain ⟨i', hi', rfl⟩ := hip
        have hil : i < len := by
          have := (List.getElem?_eq_some_iff.1 hi').1
          simpa using this
        rw [List.getElem?_range hil] at hi'
        cases hi'
        have := (hf i hil).2 j v hv
        rw [ha, Addr.add_lit] at this
        rw [Nat.add_assoc]; exact this
      · intro p hp
        simp only [List.mem_map, List.mem_range] at hp
        obtain ⟨i, hil, rfl⟩ := hp
        exact (hf i hil).1
      · rw [List.length_map, List.length_range]; omega

theorem array2 {α : Type} {cs : Array α} (h : cs.size = 2) : ∃ c0 c1, cs = #[c0, c1] := by
  obtain ⟨l⟩ := cs
  match l, h with
  | [c0, c1], _ => exact ⟨c0, c1, rfl⟩

set_option maxRecDepth 100000 in
theorem open_table {r : Reach} {b0 : Nat} {v : Value} {d : DataW H} {p : List MemPlace} (hv : Value.okWide Try.prog w r b0 50 v) (h : DataW.Trod enc Try.prog w 0 spare held 50 v d p) :
    ∃ (sv : Value) (tu : Int) (ps : List PD), v = .agg #[sv, .int .i64 tu] ∧ TArg w sv ps ∧ (∀ p ∈ ps, p.ok) ∧ ps.length ≤ maxLen ∧ (Lit.int .i64 tu).wf = true := by
  obtain ⟨cs, rfl, hsz⟩ := okWide_struct Try.underlying50 hv
  have hC : Try.prog.cellsOf 50 = 2 := by kernel_rfl
  have k1 : Try.prog.cellsOf 48 = 1 := by kernel_rfl
  have k3 : Try.prog.cellsOf 3 = 1 := by kernel_rfl
  obtain ⟨c0, c1, rfl⟩ := array2 (hsz.trans hC)
  obtain ⟨fuel, hf⟩ := h
  obtain ⟨y0, y1, n, _, _, t0, t1⟩ := trod_struct2 Try.underlying50 hf
  simp only [Value.cells, k1, k3, List.drop_zero, List.drop_succ_cons, List.take_succ_cons, List.take_zero] at t0 t1
  obtain ⟨k, e0, _, wk⟩ := DataW.trod_int Try.underlying3 t1
  simp only [List.cons.injEq, and_true] at e0
  subst e0
  obtain ⟨ps, h1, h2, h3⟩ := open_row t0
  exact ⟨c0, k, ps, rfl, h1, h2, h3, wk⟩
end
end Go.Proofs.Ytkipmogmejfmcaa

/-
  OWN WORK. slices.Delete of one pair.
-/
namespace Go.Proofs.Ytkipmogmejfmcaa
open Go.RowKit
attribute [local go_sem] run_store_float
set_option linter.unusedVariables false

/-- Some cells of a row are written. -/
def putN (ar : Array Value) (o : Nat) : List Value → Array Value
  | [] => ar
  | v :: vs => putN (ar.setIfInBounds o v) (o + 1) vs
theorem putN_size (vs : List Value) : ∀ (ar : Array Value) (o : Nat), (putN ar o vs).size = ar.size := by
  induction vs with
  | nil => intro ar o; rfl
  | cons v vs ih => intro ar o; unfold putN; rw [ih]; simp
theorem putN_get (vs : List Value) : ∀ (ar : Array Value) (o : Nat), o + vs.length ≤ ar.size → ∀ k, (putN ar o vs)[k]? = if o ≤ k ∧ k < o + vs.length then vs[k - o]? else ar[k]? := by
  induction vs with
  | nil => intro ar o _ k; rw [if_neg (by simp)]; rfl
  | cons v vs ih =>
    intro ar o h k
    simp only [List.length_cons] at h
    unfold putN
    rw [ih (ar.setIfInBounds o v) (o + 1) (by simp; omega) k, Array.getElem?_setIfInBounds]
    by_cases h1 : o = k
    · subst h1
      rw [if_neg (by omega), if_pos rfl, if_pos (by omega), if_pos (by simp)]
      simp
    · rw [if_neg h1]
      by_cases h2 : o + 1 ≤ k ∧ k < o + 1 + vs.length
      · rw [if_pos h2, if_pos (by simp; omega)]
        rw [show k - o = (k - (o + 1)) + 1 by omega]
        simp
      · rw [if_neg h2, if_neg (by simp; omega)]
theorem blk_putN {g : Nat} {t : TypeId} (vs : List Value) : ∀ {w : World} {ar : Array Value} (o : Nat), w.heap[g]? = some (.cells ar t) → (w.setCells g o vs).heap[g]? = some (.cells (putN ar o vs) t) := by
  induction vs with
  | nil => intro w ar o h; exact h
  | cons v vs ih => intro w ar o h; exact ih (o + 1) (blk_set h o v)
theorem bt_setCells (S : List Nat) (g : Nat) (hg : g ∈ S) (vs : List Value) : ∀ (a w : World) (o : Nat), Bt S a w → Bt S a (w.setCells g o vs) := by
  induction vs with
  | nil => intro a w o h; exact h
  | cons v vs ih => intro a w o h; exact ih a _ (o + 1) (h.setCell (p := ⟨g, o, none⟩) hg v)

theorem flat_get (qs : List PD) : ∀ (i j : Nat), j < 11 → (flat qs)[i * 11 + j]? = (qs[i]?).bind fun q => q.cells[j]? := by
  induction qs with
  | nil => intro i j _; simp [flat]
  | cons q qs ih =>
    intro i j hj
    have e : flat (q :: qs) = q.cells ++ flat qs := by simp [flat]
    rw [e]
    cases i with
    | zero => rw [List.getElem?_append_left (by rw [cells_len]; omega)]; simp
    | succ i =>
      rw [List.getElem?_append_right (by rw [cells_len]; omega), cells_len, show (i + 1) * 11 + j - 11 = i * 11 + j by omega, ih i j hj]
      simp
theorem flat_one (qs : List PD) : ∀ u ∈ flat qs, u.oneCell' = true := by
  intro u hu
  obtain ⟨p, _, hp⟩ := List.mem_flatMap.1 hu
  simp only [PD.cells, VD.cells, List.cons_append, List.nil_append, List.mem_cons, List.not_mem_nil, or_false] at hp
  rcases hp with rfl | rfl | rfl | rfl | rfl | rfl | rfl | rfl | rfl | rfl | rfl <;> rfl
/-- What a row holds, cell by cell. -/
theorem cont_flat {ps : List PD} {ar : Array Value} (h : Cont ps ar ps.length) (k : Nat) : ∀ j u, (flat (ps.drop k))[j]? = some u → ar[k * 11 + j]? = some u := by
  intro j u hu
  have hj : j % 11 < 11 := Nat.mod_lt _ (by omega)
  have hd : j / 11 * 11 + j % 11 = j := by omega
  rw [← hd, flat_get _ _ _ hj, List.getElem?_drop] at hu
  cases hq : ps[k + j / 11]? with
  | none => rw [hq] at hu; cases hu
  | some q =>
    rw [hq] at hu
    have := h _ q (List.getElem?_eq_some_iff.1 hq).1 hq (j % 11) u hu
    rw [← this]
    congr 1
    omega

/-- The row behind Delete. -/
theorem cont_del {ps : List PD} {ar : Array Value} {m cap : Nat} (hs : ar.size = cap * 11) (hm : m < ps.length) (hc : ps.length ≤ cap) (zs : List Value) (hz : zs.length = 11) (h : Cont ps ar ps.length) :
    Cont (ps.eraseIdx m) (putN (putN ar (m * 11) (flat (ps.drop (m + 1)))) ((ps.length - 1) * 11) zs) (ps.eraseIdx m).length := by
  have hl : (ps.eraseIdx m).length = ps.length - 1 := by rw [List.length_eraseIdx, if_pos hm]
  have hfl : (flat (ps.drop (m + 1))).length = (ps.length - (m + 1)) * 11 := by rw [flat_len, List.length_drop]
  intro i q hi hq j u hu
  rw [hl] at hi
  have hj : j < 11 := by
    have := (List.getElem?_eq_some_iff.1 hu).1
    rw [cells_len] at this; exact this
  rw [putN_get _ _ _ (by rw [putN_size, hz]; omega), if_neg (by omega), putN_get _ _ _ (by rw [hfl]; omega), hfl]
  rw [List.getElem?_eraseIdx] at hq
  by_cases him : i < m
  · rw [if_pos him] at hq
    rw [if_neg (by omega)]
    exact h i q (by omega) hq j u hu
  · rw [if_neg him] at hq
    rw [if_pos (by omega), show i * 11 + j - m * 11 = (i - m) * 11 + j by omega, flat_get _ _ _ hj, List.getElem?_drop, show m + 1 + (i - m) = i + 1 by omega, hq]
    exact hu

theorem zero_pair : ∃ z : Value, (∀ w, (zeroValue 60).run Try.prog w = .ok z w) ∧ (Builtin.zeroCells z.cells 1).toList.length = 11 ∧ ∀ u ∈ (Builtin.zeroCells z.cells 1).toList, u.oneCell' = true := by
  have hc : (Try.prog.info? 60).map (fun i => i.zero.map (fun z => ((Builtin.zeroCells z.cells 1).toList.length, (Builtin.zeroCells z.cells 1).toList.all (·.oneCell')))) = some (some (11, true)) := by kernel_rfl
  cases hi : Try.prog.info? 60 with
  | none => rw [hi] at hc; cases hc
  | some i =>
    rw [hi] at hc
    simp only [Option.map_some, Option.some.injEq] at hc
    cases hz : i.zero with
    | none => rw [hz] at hc; cases hc
    | some z =>
      rw [hz] at hc
      simp only [Option.map_some, Option.some.injEq, Prod.mk.injEq] at hc
      exact ⟨z, fun w => by simp [zeroValue, typeInfo, hi, hz], hc.1, List.all_eq_true.1 hc.2⟩

theorem run_clear1 (w : World) (lb o c cap : Nat) (ar : Array Value) (ty : TypeId) (hr : w.heap[lb]? = some (.cells ar 60)) (hs : o + 11 ≤ ar.size) :
    ∃ zs, zs.length = 11 ∧ (Builtin.clear_ #[53] ty #[.slice (some ⟨lb, o, none⟩) 1 c]).run Try.prog w = .ok (.tuple #[]) (w.setCells lb o zs) := by
  obtain ⟨z, hz, hl, h1⟩ := zero_pair
  refine ⟨_, hl, ?_⟩
  have hst := run_storeCells_cells (P := Try.prog) lb o (Builtin.zeroCells z.cells 1).toList 0 w (fun j hj => by
      rw [hl] at hj
      rw [blk_cell hr, Array.getElem?_eq_getElem (by omega)]; rfl) (fun j _ => blk_frozen hr _) h1
  simp only [Nat.add_zero] at hst
  simp [Builtin.clear_, run_underlying Try.underlying53, hz, hst]

theorem run_app_del (w : World) (lb m cap : Nat) (ps : List PD) (ar : Array Value) (ty : TypeId) (hr : w.heap[lb]? = some (.cells ar 60)) (hs : ar.size = cap * 11) (hm : m < ps.length) (hc : ps.length ≤ cap) (hC : Cont ps ar ps.length) (c : Nat) :
    (Builtin.append_ #[53, 53] ty #[.slice (some ⟨lb, 0, none⟩) m cap, .slice (some ⟨lb, (m + 1) * 11, none⟩) (ps.length - (m + 1)) c]).run Try.prog w = .ok (.slice (some ⟨lb, 0, none⟩) (m + (ps.length - (m + 1))) cap) (w.setCells lb (m * 11) (flat (ps.drop (m + 1)))) := by
  obtain ⟨i, z, hi, hz, h1, h2, h3⟩ := info_pair
  have hfl : (flat (ps.drop (m + 1))).length = (ps.length - (m + 1)) * 11 := by rw [flat_len, List.length_drop]
  have hrun := run_append_room_cells (P := Try.prog) w 53 ty 60 i Try.underlying53 hi lb 0 m cap ⟨lb, (m + 1) * 11, none⟩ (ps.length - (m + 1)) c (flat (ps.drop (m + 1))) (by rw [h1, hfl]) (fun j u hu => by
      show w.cell? (Addr.add ⟨lb, (m + 1) * 11, none⟩ j) = some u
      rw [Addr.add_lit, blk_cell hr]; exact cont_flat hC (m + 1) j u hu) (flat_one _) (by omega) (fun j hj => by
      rw [hfl] at hj
      rw [blk_cell hr, h1, Array.getElem?_eq_getElem (by omega)]; rfl) (fun j _ => blk_frozen hr _)
  rw [h1, Nat.zero_add] at hrun
  exact hrun

set_option maxRecDepth 20000 in
set_option maxHeartbeats 2000000 in
theorem del_any (lb m m1 cap : Nat) (ps : List PD) (ar : Array Value) (w : World) (hr : w.heap[lb]? = some (.cells ar 60)) (hs : ar.size = cap * 11) (hm : m < ps.length) (hm1 : m1 = m + 1) (hc : ps.length < cap) (hcap : cap ≤ 1048577) (hC : Cont ps ar ps.length) :
    Calls Try.prog 123 #[.slice (some ⟨lb, 0, none⟩) ps.length cap, .int .i64 m, .int .i64 m1] w fun e w' => e = .returned (.slice (some ⟨lb, 0, none⟩) (ps.length - 1) cap) ∧ (∃ ar', w'.heap[lb]? = some (.cells ar' 60) ∧ ar'.size = cap * 11 ∧ Cont (ps.eraseIdx m) ar' (ps.eraseIdx m).length) ∧ Bt [lb] w w' := by
  obtain ⟨n, hn⟩ : ∃ n, n = ps.length := ⟨_, rfl⟩
  obtain ⟨n1, hn1⟩ : ∃ n1, n1 = n - 1 := ⟨_, rfl⟩
  have happ := run_app_del w.drew lb m cap ps ar 53 hr hs hm (by omega) hC (cap - (m + 1))
  obtain ⟨W1, hW1⟩ : ∃ W1, W1 = w.drew.setCells lb (m * 11) (flat (ps.drop (m + 1))) := ⟨_, rfl⟩
  have hr1 : W1.heap[lb]? = some (.cells (putN ar (m * 11) (flat (ps.drop (m + 1)))) 60) := by rw [hW1]; exact blk_putN _ _ hr
  have hB1 : Bt [lb] w W1 := by rw [hW1]; exact bt_setCells [lb] lb (by simp) _ _ _ _ (Bt.refl _ _).drew
  obtain ⟨zs, hzl, hcl⟩ := run_clear1 W1 lb (n1 * 11) (cap - n1) cap _ 0 hr1 (by rw [putN_size]; omega)
  rw [← hW1, show m + (ps.length - (m + 1)) = n1 by omega, ← hn, ← hm1] at happ
  have HAP : Hid ((Builtin.append_ #[53, 53] 53 #[.slice (some ⟨lb, 0, none⟩) m cap, .slice (some ⟨lb, m1 * 11, none⟩) (n - m1) (cap - m1)]).run Try.prog w.drew = .ok (.slice (some ⟨lb, 0, none⟩) n1 cap) W1) := happ
  have HR1 : Hid (W1.heap[lb]? = some (.cells (putN ar (m * 11) (flat (ps.drop (m + 1)))) 60)) := hr1
  have HB1 : Hid (Bt [lb] w W1) := hB1
  have HN : Hid (n = ps.length) := hn
  have HN1 : Hid (n1 = n - 1) := hn1
  have HM1 : Hid (m1 = m + 1) := hm1
  have HC : Hid (Cont ps ar ps.length) := hC
  have HZ : Hid (zs.length = 11) := hzl
  rw [← hn] at hm hc
  rw [show (Value.slice (some ⟨lb, 0, none⟩) ps.length cap) = Value.slice (some ⟨lb, 0, none⟩) n cap by rw [hn]]
  have k1 : m ≤ cap := by omega
  have k2 : m1 ≤ cap := by omega
  have k3 : m1 ≤ n := by omega
  have k4 : m ≤ m1 := by omega
  have k5 : ((m : Int) == (m1 : Int)) = false := by simp; omega
  have k6 : n1 ≤ n := by omega
  have k7 : n1 ≤ cap := by omega
  have k8 : n - n1 = 1 := by omega
  have k9 : cap ≠ m1 := by omega
  have k10 : cap ≠ n1 := by omega
  have k11 : n ≤ cap := by omega
  clear happ hr1 hB1 hn hC hzl hW1 hr hn1 hm1
  go_enter Try.func123, Try.ntmps123
  go_wp2_with fail
  go_region_law (refine step_append_run rfl _ _ _ rfl _ _ _ _ rfl rfl HAP.out ?_)
  all_goals
    go_wp2_with fail
    go_ret
    have e1 := HN.out
    have e2 := HN1.out
    refine ⟨by rw [show ps.length - 1 = n1 by omega]; rfl, ⟨_, blk_putN zs _ HR1.out, ?_, ?_⟩, bt_setCells [lb] lb (by simp) _ _ _ _ HB1.out⟩
    · rw [putN_size, putN_size]; exact hs
    · rw [show n1 = ps.length - 1 by omega]
      exact cont_del hs (by omega) (by omega) zs HZ.out HC.out
end Go.Proofs.Ytkipmogmejfmcaa

/-
  OWN WORK. Tables that Put answers: held against each other, marked, held to their marks.
-/
namespace Go.Proofs.Ytkipmogmejfmcaa
open Go.RowKit
attribute [local go_sem] run_store_float
set_option linter.unusedVariables false

/-- A row of one's own, or nil. -/
def TRow (w : World) (base : Nat) (sv : Value) (ps : List PD) : Prop :=
  (sv = .slice none 0 0 ∧ ps = []) ∨ ∃ g cap ar, sv = .slice (some ⟨g, 0, none⟩) ps.length cap ∧ base ≤ g ∧ w.heap[g]? = some (.cells ar 60) ∧ ps.length * 11 ≤ ar.size ∧ Cont ps ar ps.length

theorem TRow.bt {S : List Nat} {w wx : World} {base : Nat} {sv : Value} {ps : List PD} (hb : Bt S w wx) (hS : ∀ x ∈ S, x ∉ sv.ownBlock.toList) (h : TRow w base sv ps) : TRow wx base sv ps := by
  rcases h with h | ⟨g, cap, ar, rfl, h2, h3, h4⟩
  · exact .inl h
  · exact .inr ⟨g, cap, ar, rfl, h2, (hb.block g (Array.getElem?_eq_some_iff.1 h3).1 (fun hx => hS g hx (by simp [Value.ownBlock]))).trans h3, h4⟩
theorem TRow.later {w wx : World} {base : Nat} {sv : Value} {ps : List PD} (hb : Below w.heap.size w wx) (h : TRow w base sv ps) : TRow wx base sv ps := by
  rcases h with h | ⟨g, cap, ar, rfl, h2, h3, h4⟩
  · exact .inl h
  · exact .inr ⟨g, cap, ar, rfl, h2, (hb.block g (Array.getElem?_eq_some_iff.1 h3).1).trans h3, h4⟩
theorem TRow.mono {w : World} {base base' : Nat} {sv : Value} {ps : List PD} (hb : base' ≤ base) (h : TRow w base sv ps) : TRow w base' sv ps := by
  rcases h with h | ⟨g, cap, ar, rfl, h2, h3⟩
  · exact .inl h
  · exact .inr ⟨g, cap, ar, rfl, Nat.le_trans hb h2, h3⟩
theorem TRow.arg {w : World} {base : Nat} {sv : Value} {ps : List PD} (h : TRow w base sv ps) : TArg w sv ps := by
  rcases h with ⟨rfl, rfl⟩ | ⟨g, cap, ar, rfl, h2, h3, h4, h5⟩
  · exact .inl ⟨none, 0, rfl, rfl⟩
  · exact .inr ⟨g, 0, cap, rfl, cont_at rfl h3 h5, (Array.getElem?_eq_some_iff.1 h3).1⟩
theorem TRow.ge {w : World} {base : Nat} {sv : Value} {ps : List PD} (h : TRow w base sv ps) : ∀ x ∈ sv.ownBlock.toList, base ≤ x ∧ x < w.heap.size := by
  rcases h with ⟨rfl, rfl⟩ | ⟨g, cap, ar, rfl, h2, h3, _⟩
  · intro x hx; simp [Value.ownBlock] at hx
  · intro x hx
    simp only [Value.ownBlock, Option.toList_some, List.mem_singleton] at hx
    subst hx
    exact ⟨h2, (Array.getElem?_eq_some_iff.1 h3).1⟩
theorem TRow.of_owns {w : World} {base : Nat} {sv : Value} {ps : List PD} (h : w.ownsRow base 60 11 sv ps.length (flat ps)) : TRow w base sv ps := by
  obtain ⟨h1, ⟨rfl, h2⟩ | ⟨g, cap, cur, rfl, h2, h3, h4, h5, h6, h7⟩⟩ := h
  · exact .inl ⟨rfl, List.length_eq_zero_iff.1 h2⟩
  · refine .inr ⟨g, cap, cur, rfl, h2, h3, by rw [h6]; omega, ?_⟩
    intro i q hi hq j u hu
    have hj : j < 11 := by
      have := (List.getElem?_eq_some_iff.1 hu).1
      rw [cells_len] at this; exact this
    have h8 := flat_get ps i j hj
    rw [hq, ← h7, List.getElem?_take, if_pos (by omega)] at h8
    rw [← Array.getElem?_toList, h8]
    exact hu

set_option maxRecDepth 20000 in
set_option maxHeartbeats 1000000 in
theorem eqs_nil (a b : Option Addr) (cap cap' : Nat) (w : World) :
    Calls Try.prog 80 #[.slice a 0 cap, .slice b 0 cap'] w fun e w' => e = .returned (.bool true) ∧ Below w.heap.size w w' := by
  go_enter Try.func80, Try.ntmps80
  go_wp2_with fail
  go_loopw [5] (fun i wr => i = .int .i64 0 ∧ Below w.heap.size w wr) (fun _ _ => 0)
  case atStart => exact ⟨rfl, Below.refl _ _⟩
  case round =>
    obtain ⟨rfl, hB⟩ := hrel
    go_wp2_with fail
    go_ret
    exact ⟨rfl, hB⟩

set_option maxRecDepth 20000 in
set_option maxHeartbeats 1000000 in
theorem eqt_nil (a b : Option Addr) (cap cap' : Nat) (turns : Int) (w : World) :
    Calls Try.prog 39 #[.agg #[.slice a 0 cap, .int .i64 turns], .agg #[.slice b 0 cap', .int .i64 turns]] w fun e w' => e = .returned (.bool true) ∧ Below w.heap.size w w' := by
  go_enter Try.func39, Try.ntmps39
  go_wp2_with fail
  refine (eqs_nil a b cap cap' _).mono ?_
  rintro e w1 ⟨rfl, hx⟩
  obtain ⟨h0, h1⟩ := heap2 w (.cells #[.slice a 0 cap, .int .i64 turns] 55) (.cells #[.slice b 0 cap', .int .i64 turns] 55)
  have c1 : w1.cell? ⟨w.heap.size, 1, none⟩ = some (.int .i64 turns) := by rw [blk_cell ((hx.block w.heap.size (by simp; omega)).trans h0)]; rfl
  have d1 : w1.cell? ⟨w.heap.size + 1, 1, none⟩ = some (.int .i64 turns) := by rw [blk_cell ((hx.block (w.heap.size + 1) (by simp)).trans h1)]; rfl
  have hb := (bw2 _ _ _).trans (hx.mono (by simp; omega))
  clear hx h0 h1
  go_wp2_with fail
  go_ret
  exact ⟨rfl, hb⟩

theorem eqt_arg (a b : Value) (turns : Int) (ps : List PD) (w : World) (ha : TArg w a ps) (hb : TArg w b ps) (hlen : ps.length ≤ 1048576) :
    Calls Try.prog 39 #[.agg #[a, .int .i64 turns], .agg #[b, .int .i64 turns]] w fun e w' => e = .returned (.bool true) ∧ Below w.heap.size w w' := by
  rcases ha with ⟨x, cap, rfl, hps⟩ | ⟨g, off, cap, rfl, h1, h2⟩
  · rcases hb with ⟨y, cap', rfl, _⟩ | ⟨g', off', cap', rfl, _, _⟩
    · exact eqt_nil x y cap cap' turns w
    · subst hps; exact eqt_nil x (some ⟨g', off', none⟩) cap cap' turns w
  · rcases hb with ⟨y, cap', rfl, hps⟩ | ⟨g', off', cap', rfl, h3, _⟩
    · subst hps; exact eqt_nil (some ⟨g, off, none⟩) y cap cap' turns w
    · exact eqt_some g off cap g' off' cap' ps.length turns ps w rfl h1 h3 hlen

set_option maxRecDepth 20000 in
set_option maxHeartbeats 1000000 in
theorem marks_nil (w : World) : Calls Try.prog 91 #[.slice none 0 0, .int .i64 1] w fun e w' => e = .returned (.int .i64 1) ∧ Below w.heap.size w w' := by
  go_enter Try.func91, Try.ntmps91
  go_wp2_with fail
  go_loopw [1, 5] (fun k i wr => k = .int .i64 1 ∧ i = .int .i64 0 ∧ Below w.heap.size w wr) (fun _ _ _ => 0)
  case atStart => exact ⟨rfl, rfl, Below.refl _ _⟩
  case round =>
    obtain ⟨rfl, rfl, hB⟩ := hrel
    go_wp2_with fail
    go_ret
    exact ⟨rfl, hB⟩
set_option maxRecDepth 20000 in
set_option maxHeartbeats 1000000 in
theorem helds_nil (w : World) : Calls Try.prog 92 #[.slice none 0 0, .int .i64 1] w fun e w' => e = .returned (.int .i64 1) ∧ Below w.heap.size w w' := by
  go_enter Try.func92, Try.ntmps92
  go_wp2_with fail
  go_loopw [1, 5] (fun k i wr => k = .int .i64 1 ∧ i = .int .i64 0 ∧ Below w.heap.size w wr) (fun _ _ _ => 0)
  case atStart => exact ⟨rfl, rfl, Below.refl _ _⟩
  case round =>
    obtain ⟨rfl, rfl, hB⟩ := hrel
    go_wp2_with fail
    go_ret
    exact ⟨rfl, hB⟩

theorem mks_len (k n : Nat) : (mks k n).length = n := by simp [mks]

/-- A row is marked. -/
theorem marks_row (sv : Value) (base : Nat) (ps : List PD) (w : World) (h : TRow w base sv ps) (hlen : ps.length ≤ 1048576) :
    Calls Try.prog 91 #[sv, .int .i64 1] w fun e w' => e = .returned (.int .i64 ((1 + 11 * ps.length : Nat) : Int)) ∧ TRow w' base sv (mks 1 ps.length) ∧ Bt sv.ownBlock.toList w w' := by
  rcases h with ⟨rfl, rfl⟩ | ⟨g, cap, ar, rfl, h2, h3, h4, h5⟩
  · refine (marks_nil w).mono ?_
    rintro e w1 ⟨rfl, hx⟩
    exact ⟨rfl, .inl ⟨rfl, rfl⟩, Bt.of_below hx⟩
  · refine (mark_row g ps.length cap 1 ar _ w h3 h4 hlen (by omega)).mono ?_
    rintro e w1 ⟨rfl, hT, ax, h6, h7, h8⟩
    exact ⟨rfl, .inr ⟨g, cap, ax, by rw [mks_len], h2, h6, by rw [mks_len, h7]; exact h4, by rw [mks_len]; exact h8⟩, hT⟩
theorem helds_row (sv : Value) (base n : Nat) (w : World) (h : TRow w base sv (mks 1 n)) (hlen : n ≤ 1048576) :
    Calls Try.prog 92 #[sv, .int .i64 1] w fun e w' => e = .returned (.int .i64 ((1 + 11 * n : Nat) : Int)) ∧ Below w.heap.size w w' := by
  rcases h with ⟨rfl, h0⟩ | ⟨g, cap, ar, rfl, h2, h3, h4, h5⟩
  · have hn : n = 0 := by have := mks_len 1 n; rw [h0] at this; simpa using this.symm
    subst hn
    exact helds_nil w
  · rw [mks_len] at h5 ⊢
    exact held_row g n cap 1 w (cont_at (mks_len 1 n) h3 h5) hlen (by omega) (by omega)

set_option maxRecDepth 20000 in
set_option maxHeartbeats 1000000 in
theorem mark_tab (sv : Value) (base : Nat) (turns : Int) (ps : List PD) (w : World) (h : TRow w base sv ps) (hlen : ps.length ≤ 1048576) :
    Calls Try.prog 50 #[.agg #[sv, .int .i64 turns], .int .i64 1] w fun e w' => e = .returned (.int .i64 ((1 + 11 * ps.length : Nat) : Int)) ∧ TRow w' base sv (mks 1 ps.length) ∧ Bt sv.ownBlock.toList w w' := by
  have HR : Hid (TRow w base sv ps) := h
  obtain ⟨ao, n', cap', hsv⟩ : ∃ ao n' cap', sv = .slice ao n' cap' := by rcases h with ⟨rfl, _⟩ | ⟨g, cap, ar, rfl, _⟩ <;> exact ⟨_, _, _, rfl⟩
  obtain ⟨K, hK⟩ : ∃ K : Int, K = ((1 + 11 * ps.length : Nat) : Int) := ⟨_, rfl⟩
  have HK : Hid (K = ((1 + 11 * ps.length : Nat) : Int)) := hK
  rw [← hK]
  clear h hK
  subst hsv
  go_enter Try.func50, Try.ntmps50
  go_wp2_with fail
  refine (marks_row (.slice ao n' cap') base ps _ (HR.out.later (bw1 _ _)) hlen).mono ?_
  rw [← HK.out]
  rintro e w1 ⟨rfl, hR, hT⟩
  have HR1 : Hid (TRow w1 base (.slice ao n' cap') (mks 1 ps.length)) := hR
  have HT1 : Hid (Bt (Value.slice ao n' cap').ownBlock.toList w w1) := (Bt.of_below (bw1 _ _)).trans hT
  clear hR hT
  go_wp2_with fail
  go_ret
  exact ⟨rfl, HR1.out, HT1.out⟩
set_option maxRecDepth 20000 in
set_option maxHeartbeats 1000000 in
theorem held_tab (sv : Value) (base n : Nat) (turns : Int) (w : World) (h : TRow w base sv (mks 1 n)) (hlen : n ≤ 1048576) :
    Calls Try.prog 51 #[.agg #[sv, .int .i64 turns], .int .i64 1] w fun e w' => e = .returned (.int .i64 ((1 + 11 * n : Nat) : Int)) ∧ Below w.heap.size w w' := by
  have HR : Hid (TRow w base sv (mks 1 n)) := h
  obtain ⟨ao, n', cap', hsv⟩ : ∃ ao n' cap', sv = .slice ao n' cap' := by rcases h with ⟨rfl, _⟩ | ⟨g, cap, ar, rfl, _⟩ <;> exact ⟨_, _, _, rfl⟩
  obtain ⟨K, hK⟩ : ∃ K : Int, K = ((1 + 11 * n : Nat) : Int) := ⟨_, rfl⟩
  have HK : Hid (K = ((1 + 11 * n : Nat) : Int)) := hK
  have hK0 : decide (K < 0) = false := by simp; omega
  rw [← hK]
  clear h hK
  subst hsv
  go_enter Try.func51, Try.ntmps51
  go_wp2_with fail
  refine (helds_row (.slice ao n' cap') base n _ (HR.out.later (bw1 _ _)) hlen).mono ?_
  rw [← HK.out]
  rintro e w1 ⟨rfl, hx⟩
  have hb := (bw1 _ _).trans (hx.mono (by simp))
  clear hx
  go_wp2_with fail
  go_ret
  exact ⟨rfl, hb⟩
end Go.Proofs.Ytkipmogmejfmcaa

/-
  OWN WORK. The map from key to place, whatever it holds.
-/
namespace Go.Proofs.Ytkipmogmejfmcaa
open Go.RowKit
attribute [local go_sem] run_store_float
set_option linter.unusedVariables false

/-- A map whose keys are values. -/
def MapW (w : World) (mb : Nat) : Prop := ∃ es clock, w.heap[mb]? = some (.map es clock) ∧ ∀ e ∈ es.toList, ∃ q : VD, e.key = q.v
theorem MapAt.weak {w : World} {mb : Nat} {ps : List PD} (h : MapAt w mb ps) : MapW w mb := by
  obtain ⟨es, clock, h1, h2, h3⟩ := h
  refine ⟨es, clock, h1, fun e he => ?_⟩
  obtain ⟨j, hj, rfl⟩ := List.mem_iff_getElem.1 he
  obtain ⟨p, hp⟩ : ∃ p, ps[j]? = some p := ⟨ps[j]'(by omega), by simp⟩
  exact ⟨p.key, (h3 j p _ hp (List.getElem?_eq_getElem hj)).1⟩
theorem MapW.bt {S : List Nat} {w wx : World} {mb : Nat} (hb : Bt S w wx) (hn : mb ∉ S) (h : MapW w mb) : MapW wx mb := by
  obtain ⟨es, clock, h1, h2⟩ := h
  exact ⟨es, clock, (hb.block mb (Array.getElem?_eq_some_iff.1 h1).1 hn).trans h1, h2⟩
theorem MapW.later {w wx : World} {mb : Nat} (hb : Below w.heap.size w wx) (h : MapW w mb) : MapW wx mb := by
  obtain ⟨es, clock, h1, h2⟩ := h
  exact ⟨es, clock, (hb.block mb (Array.getElem?_eq_some_iff.1 h1).1).trans h1, h2⟩

set_option maxRecDepth 20000 in
theorem run_askw (q : VD) (w : World) : ∀ (es : List MapEntry) (k : Nat), (∀ e ∈ es, ∃ q : VD, e.key = q.v) →
    ∃ r, (Instr.findAsking 27 q.v es k).run Try.prog w = .ok r w := by
  intro es
  induction es with
  | nil => intro k _; exact ⟨none, by simp [Instr.findAsking]⟩
  | cons e es ih =>
    intro k h
    obtain ⟨p, hp⟩ := h e (by simp)
    have hq : (Op.equal 27 q.v e.key).run Try.prog w = .ok (eqb q p) w := by
      rw [hp]; exact run_eqv q p w 9998
    rw [Instr.findAsking]
    simp only [Sem.run_bind, hq, Result.andThen_ok]
    by_cases hb : eqb q p = true
    · exact ⟨_, by simp [hb]; rfl⟩
    · have hb' : eqb q p = false := by simpa using hb
      obtain ⟨r, hr⟩ := ih (k + 1) (fun e' he => h e' (by simp [he]))
      exact ⟨r, by simp [hb', hr]⟩

set_option maxRecDepth 20000 in
theorem run_findw (q : VD) (w : World) (es : List MapEntry) (h : ∀ e ∈ es, ∃ q : VD, e.key = q.v) :
    ∃ r, (Instr.findKey 27 q.v es).run Try.prog w = .ok r w := by
  obtain ⟨r, ha⟩ := run_askw q w es 0 h
  unfold Instr.findKey
  simp only [Sem.run_bind, run_underlying und_value, Result.andThen_ok]
  match es, h, ha with
  | [], h, ha => exact ⟨none, by simp [Instr.findNow]⟩
  | e :: es, h, ha => exact ⟨r, by simpa [Instr.findNow, Instr.sameNow] using ha⟩

theorem run_stays (a b : VD) (w : World) : ∃ (c : VD) (w' : World), (Instr.keyThatStays a.v b.v).run Try.prog w = .ok c.v w' ∧ (w' = w ∨ w' = w.drew) := by
  unfold Instr.keyThatStays
  by_cases h : Instr.sameBits 10000 a.v b.v = true
  · exact ⟨b, w, by rw [if_pos h]; rfl, .inl rfl⟩
  · rw [if_neg h]
    simp only [Sem.run_bind, run_choose_drew]
    split
    · refine ⟨b, w, by simp, .inl rfl⟩
    · simp only [Result.andThen_ok, Sem.run_pure]
      split
      · exact ⟨b, w.drew, rfl, .inr rfl⟩
      · exact ⟨a, w.drew, rfl, .inr rfl⟩

set_option maxRecDepth 20000 in
theorem run_del_w (q : VD) (w : World) (mb : Nat) (ty t2 : TypeId) (h : MapW w mb) :
    ∃ w', (Builtin.delete_ #[116, t2] ty #[.map (some mb), q.v]).run Try.prog w = .ok (.tuple #[]) w' ∧ MapW w' mb ∧ Bt [mb] w w' := by
  obtain ⟨es, clock, hb, he⟩ := h
  obtain ⟨r, hr⟩ := run_findw q w es.toList he
  have hl := (Array.getElem?_eq_some_iff.1 hb).1
  have hbt : ∀ o : Obj, Bt [mb] w { w with heap := w.heap.setIfInBounds mb o } := fun o => by
    refine ⟨rfl, rfl, rfl, by simp, fun k hk hn => ?_⟩
    simp at hn
    show (w.heap.setIfInBounds mb _)[k]? = _
    rw [Array.getElem?_setIfInBounds, if_neg (fun e => hn e.symm)]
  cases r with
  | none =>
    refine ⟨{ w with heap := w.heap.setIfInBounds mb (.map es clock) }, ?_, ⟨es, clock, by simp [hl], he⟩, hbt _⟩
    unfold Builtin.delete_
    simp [run_underlying Try.underlying116, MapKept.run_getObj_map hb, run_check q es.isEmpty w 9998, hr, MapKept.run_setObj_map _ hb]
  | some x =>
    refine ⟨{ w with heap := w.heap.setIfInBounds mb (.map (es.eraseIdxIfInBounds x.1) clock) }, ?_, ⟨es.eraseIdxIfInBounds x.1, clock, by simp [hl], fun e hm => he e ?_⟩, hbt _⟩
    · unfold Builtin.delete_
      simp [run_underlying Try.underlying116, MapKept.run_getObj_map hb, run_check q es.isEmpty w 9998, hr, MapKept.run_setObj_map _ hb]
    · unfold Array.eraseIdxIfInBounds at hm
      split at hm
      · rw [Array.toList_eraseIdx] at hm; exact List.mem_of_mem_eraseIdx hm
      · exact hm

set_option maxRecDepth 20000 in
theorem run_upd_w (q : VD) (v : Value) (w : World) (mb : Nat) (h : MapW w mb) :
    ∃ w', (Instr.mapUpdate 116 (.map (some mb)) q.v v).run Try.prog w = .ok () w' ∧ MapW w' mb ∧ Bt [mb] w w' := by
  obtain ⟨es, clock, hb, he⟩ := h
  obtain ⟨r, hr⟩ := run_findw q w es.toList he
  have hl := (Array.getElem?_eq_some_iff.1 hb).1
  have hbt : ∀ (o : Obj) (wx : World), Bt [mb] w wx → Bt [mb] w { wx with heap := wx.heap.setIfInBounds mb o } := fun o wx hx => by
    refine ⟨hx.os, hx.tape, hx.output, by have := hx.size; simpa using this, fun k hk hn => ?_⟩
    have hn' := hn
    simp at hn
    show (wx.heap.setIfInBounds mb _)[k]? = _
    rw [Array.getElem?_setIfInBounds, if_neg (fun e => hn e.symm)]
    exact hx.block k hk hn'
  cases r with
  | none =>
    refine ⟨{ w with heap := w.heap.setIfInBounds mb (.map (es.push { key := q.v, val := v, born := clock }) (clock + 1)) }, ?_, ⟨_, _, by simp [hl]; exact ⟨rfl, rfl⟩, fun e hm => ?_⟩, hbt _ _ (Bt.refl _ _)⟩
    · unfold Instr.mapUpdate
      simp only [Sem.run_bind, run_underlying Try.underlying116, Result.andThen_ok, MapKept.run_getObj_map hb, run_check q false w 9998, hr, MapKept.run_setObj_map _ hb]
    · rw [Array.toList_push, List.mem_append] at hm
      rcases hm with hm | hm
      · exact he e hm
      · rw [List.mem_singleton] at hm; subst hm; exact ⟨q, rfl⟩
  | some x =>
    obtain ⟨a, ha⟩ : ∃ a : VD, ((es[x.1]?).map (·.key)).getD q.v = a.v := by
      cases hx : es[x.1]? with
      | none => exact ⟨q, rfl⟩
      | some e => exact he e (Array.mem_toList_iff.2 (Array.mem_of_getElem? hx))
    obtain ⟨c, wx, hst, hw⟩ := run_stays a q w
    have hbx : wx.heap[mb]? = some (.map es clock) := by rcases hw with rfl | rfl <;> exact hb
    have hBx : Bt [mb] w wx := by rcases hw with rfl | rfl <;> first | exact Bt.refl _ _ | exact (Bt.refl _ _).drew
    have hlx := (Array.getElem?_eq_some_iff.1 hbx).1
    refine ⟨{ wx with heap := wx.heap.setIfInBounds mb (.map (es.modify x.1 fun e => { e with key := c.v, val := v }) clock) }, ?_, ⟨_, _, by simp [hlx]; exact ⟨rfl, rfl⟩, fun e hm => ?_⟩, hbt _ _ hBx⟩
    · unfold Instr.mapUpdate
      simp only [Sem.run_bind, run_underlying Try.underlying116, Result.andThen_ok, MapKept.run_getObj_map hb, run_check q false w 9998, hr, ha, hst, MapKept.run_setObj_map _ hbx]
    · rw [Array.toList_modify] at hm
      obtain ⟨j, hj, rfl⟩ := List.mem_iff_getElem.1 hm
      rw [List.getElem_modify]
      split
      · exact ⟨c, rfl⟩
      · exact he _ (List.getElem_mem _)
end Go.Proofs.Ytkipmogmejfmcaa
