/-
  OWN WORK. Tables: After of the specification, whole; sizes and copies of a table without pairs.
-/
import Derived.Test.YtkipmogmejfmcaaTabSp
namespace Go.Proofs.Ytkipmogmejfmcaa
open Go.RowKit
attribute [local go_sem] run_store_float
set_option linter.unusedVariables false

set_option maxRecDepth 20000 in
set_option maxHeartbeats 1000000 in
theorem afts_bad (b off len cap : Nat) (ps : List PD) (turns turn : Int) (w : World) (hl : ps.length = len) (hp : PAt w b off ps) (hlen : len ≤ 1048576) (hok : ∀ p ∈ ps, p.ok) (ht : tokV ps turns = false) :
    Calls Try.prog 40 #[.agg #[.slice (some ⟨b, off, none⟩) len cap, .int .i64 turns], .int .i64 turn] w fun e w' => e = .returned (FV false pd0) ∧ Below w.heap.size w w' := by
  have HP : Hid (PAt w b off ps) := hp
  clear hp
  go_enter Try.func40, Try.ntmps40
  go_wp2_with fail
  refine (tok_any b off len cap ps turns _ hl (by exact HP.out.later (bw2 _ _ _)) hlen hok).mono ?_
  rintro e w1 ⟨rfl, hx⟩
  obtain ⟨h0, h1⟩ := heap2 w (.cells #[.slice (some ⟨b, off, none⟩) len cap, .int .i64 turns] 55) (.cells #[.bool false, .int .i64 0, .int .i64 0, .float .f64 0, .string ⟨#[]⟩, .int .i64 0, .int .i64 0, .int .i64 0, .float .f64 0, .string ⟨#[]⟩, .int .i64 0, .int .i64 0] 62)
  have sl : Slot12 w1 (w.heap.size + 1) := ⟨_, _, (hx.block (w.heap.size + 1) (by simp)).trans h1, rfl⟩
  have hb := (bw2 _ _ _).trans (hx.mono (by simp; omega))
  clear hx h0 h1
  obtain ⟨v0, v1, v2, v3, v4, v5, v6, v7, v8, v9, v10, v11, d0, d1, d2, d3, d4, d5, d6, d7, d8, d9, d10, d11, z, hz⟩ := sl.cells
  go_wp2_with fail
  exact bodyPost_ret (v := FV false pd0) (by simp [results, Try.results40, go_sem, d0, d1, d2, d3, d4, d5, d6, d7, d8, d9, d10, d11, pd0]) rfl ⟨rfl, below12 hb (by omega) _ _ _ _ _ _ _ _ _ _ _ _⟩

set_option maxRecDepth 20000 in
set_option maxHeartbeats 1000000 in
theorem afts_ok (b off len cap : Nat) (ps : List PD) (turns turn : Int) (w : World) (hl : ps.length = len) (hp : PAt w b off ps) (hlen : len ≤ 1048576) (hok : ∀ p ∈ ps, p.ok) (ht : tokV ps turns = true) :
    Calls Try.prog 40 #[.agg #[.slice (some ⟨b, off, none⟩) len cap, .int .i64 turns], .int .i64 turn] w fun e w' => e = .returned (FV (aft turn ps).isSome ((aft turn ps).getD pd0)) ∧ Below w.heap.size w w' := by
  have HP : Hid (PAt w b off ps) := hp
  clear hp
  obtain ⟨gf, hgf⟩ : ∃ gf, gf = (aft turn ps).isSome := ⟨_, rfl⟩
  obtain ⟨p, hgp⟩ : ∃ p, p = (aft turn ps).getD pd0 := ⟨_, rfl⟩
  rw [← hgf, ← hgp]
  have HF : Hid (gf = (aft turn ps).isSome) := hgf
  have HG : Hid (p = (aft turn ps).getD pd0) := hgp
  clear hgf hgp
  go_enter Try.func40, Try.ntmps40
  go_wp2_with fail
  refine (tok_any b off len cap ps turns _ hl (by exact HP.out.later (bw2 _ _ _)) hlen hok).mono ?_
  rintro e w1 ⟨rfl, hx⟩
  obtain ⟨h0, h1⟩ := heap2 w (.cells #[.slice (some ⟨b, off, none⟩) len cap, .int .i64 turns] 55) (.cells #[.bool false, .int .i64 0, .int .i64 0, .float .f64 0, .string ⟨#[]⟩, .int .i64 0, .int .i64 0, .int .i64 0, .float .f64 0, .string ⟨#[]⟩, .int .i64 0, .int .i64 0] 62)
  have sl : Slot12 w1 (w.heap.size + 1) := ⟨_, _, (hx.block (w.heap.size + 1) (by simp)).trans h1, rfl⟩
  have b0 := (hx.block w.heap.size (by simp; omega)).trans h0
  have t0 : w1.cell? ⟨w.heap.size, 0, none⟩ = some (.slice (some ⟨b, off, none⟩) len cap) := by rw [blk_cell b0]; rfl
  have t1 : w1.cell? ⟨w.heap.size, 1, none⟩ = some (.int .i64 turns) := by rw [blk_cell b0]; rfl
  have hb := (bw2 _ _ _).trans (hx.mono (by simp; omega))
  clear hx h0 h1 b0
  go_wp2_with fail
  refine (aft_any b off len cap ps turns turn _ hl (by exact HP.out.later hb) hlen hok).mono ?_
  rw [← HF.out, ← HG.out]
  rintro e w2 ⟨rfl, hx⟩
  replace hb := hb.trans (hx.mono hb.size)
  replace sl := Slot12.later hx sl
  clear hx t0 t1
  obtain ⟨v0, v1, v2, v3, v4, v5, v6, v7, v8, v9, v10, v11, d0, d1, d2, d3, d4, d5, d6, d7, d8, d9, d10, d11, z, hz⟩ := sl.cells
  go_wp2_with fail
  exact bodyPost_ret (v := FV gf p) (by simp [results, Try.results40, go_sem, d0, d1, d2, d3, d4, d5, d6, d7, d8, d9, d10, d11]) rfl ⟨rfl, below12 hb (by omega) _ _ _ _ _ _ _ _ _ _ _ _⟩

set_option maxRecDepth 20000 in
set_option maxHeartbeats 400000 in
theorem szt_nil (turns l : Int) (w : World) (h0 : 0 ≤ l) (h1 : l ≤ 1048576) :
    Calls Try.prog 35 #[.agg #[.slice none 0 0, .int .i64 turns], .int .i64 l] w fun e w' => (∃ r, e = .returned (.int .i64 r) ∧ (r = -1 ∨ (0 ≤ r ∧ r ≤ l - (0 : Nat)))) ∧ Below w.heap.size w w' := by
  go_enter Try.func35, Try.ntmps35
  go_wp2_with fail
  refine (szs_nil l _ h0 h1).mono ?_
  rintro e w1 ⟨⟨r, rfl, hr⟩, hx⟩
  have hb := (bw1 _ _).trans (hx.mono (by simp))
  rcases hr with rfl | ⟨hr0, hr1⟩
  · go_wp2_with fail
    go_ret
    exact ⟨⟨-1, rfl, .inl rfl⟩, hb⟩
  · go_wp2_with fail
    go_ret
    exact ⟨⟨r, rfl, .inr ⟨hr0, hr1⟩⟩, hb⟩

set_option maxRecDepth 20000 in
set_option maxHeartbeats 400000 in
theorem tos_nil (w : World) :
    Calls Try.prog 78 #[.slice none 0 0] w fun e w' => e = .returned (.slice (some ⟨w.heap.size, 0, none⟩) 0 0) ∧ Below w.heap.size w w' ∧ Row w' w.heap.size 0 [] := by
  obtain ⟨arr, hsz, hmk⟩ := make_pairs 0 (by omega) w
  have hmk' : (Instr.makeSlice 53 (.int .i64 0) (.int .i64 0)).run Try.prog w = .ok (.slice (some ⟨w.heap.size, 0, none⟩) 0 0) (w.alloc (.cells arr 60)) := hmk
  clear hmk
  go_enter Try.func78, Try.ntmps78
  go_wp2_with fail
  clear hmk'
  refine wp_loop_rounds 1 ?_
  rw [rounds_succ]
  go_wp2_with fail
  go_ret
  exact ⟨rfl, bw1 _ _, arr, by show (w.heap.push _)[w.heap.size]? = _; rw [Array.getElem?_push, if_pos rfl], hsz, fun i q hi => absurd hi (Nat.not_lt_zero _)⟩
end Go.Proofs.Ytkipmogmejfmcaa
