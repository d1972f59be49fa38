/-
  OWN WORK. Tables: the law's argument, whatever it is: its size, its copy.
-/
import Derived.Test.YtkipmogmejfmcaaTabAf
namespace Go.Proofs.Ytkipmogmejfmcaa
open Go.RowKit
attribute [local go_sem] run_store_float
set_option linter.unusedVariables false

set_option maxRecDepth 20000 in
set_option maxHeartbeats 400000 in
theorem szs_none (a : Option Addr) (cap : Nat) (l : Int) (w : World) (h0 : 0 ≤ l) (h1 : l ≤ 1048576) :
    Calls Try.prog 76 #[.slice a 0 cap, .int .i64 l] w fun e w' => (∃ r, e = .returned (.int .i64 r) ∧ (r = -1 ∨ (0 ≤ r ∧ r ≤ l - (0 : Nat)))) ∧ Below w.heap.size w w' := by
  go_enter Try.func76, Try.ntmps76
  go_wp2_with fail
  refine wp_loop_rounds 1 ?_
  rw [rounds_succ]
  go_wp2_with fail
  go_ret
  exact ⟨⟨_, rfl, .inr ⟨by omega, by omega⟩⟩, Below.refl _ _⟩

set_option maxRecDepth 20000 in
set_option maxHeartbeats 400000 in
theorem szt_none (a : Option Addr) (cap : Nat) (turns l : Int) (w : World) (h0 : 0 ≤ l) (h1 : l ≤ 1048576) :
    Calls Try.prog 35 #[.agg #[.slice a 0 cap, .int .i64 turns], .int .i64 l] w fun e w' => (∃ r, e = .returned (.int .i64 r) ∧ (r = -1 ∨ (0 ≤ r ∧ r ≤ l - (0 : Nat)))) ∧ Below w.heap.size w w' := by
  go_enter Try.func35, Try.ntmps35
  go_wp2_with fail
  refine (szs_none a cap l _ h0 h1).mono ?_
  rintro e w1 ⟨⟨r, rfl, hr⟩, hx⟩
  have hb := (bw1 _ _).trans (hx.mono (by simp))
  rcases hr with rfl | ⟨hr0, hr1⟩
  · go_wp2_with fail
    go_ret
    exact ⟨⟨-1, rfl, .inl rfl⟩, hb⟩
  · go_wp2_with fail
    go_ret
    exact ⟨⟨r, rfl, .inr ⟨hr0, hr1⟩⟩, hb⟩

set_option maxRecDepth 20000 in
set_option maxHeartbeats 400000 in
theorem tos_none (a : Option Addr) (cap : Nat) (w : World) :
    Calls Try.prog 78 #[.slice a 0 cap] w fun e w' => e = .returned (.slice (some ⟨w.heap.size, 0, none⟩) 0 0) ∧ Below w.heap.size w w' ∧ Row w' w.heap.size 0 [] := by
  obtain ⟨arr, hsz, hmk⟩ := make_pairs 0 (by omega) w
  have hmk' : (Instr.makeSlice 53 (.int .i64 0) (.int .i64 0)).run Try.prog w = .ok (.slice (some ⟨w.heap.size, 0, none⟩) 0 0) (w.alloc (.cells arr 60)) := hmk
  clear hmk
  go_enter Try.func78, Try.ntmps78
  go_wp2_with fail
  clear hmk'
  refine wp_loop_rounds 1 ?_
  rw [rounds_succ]
  go_wp2_with fail
  go_ret
  exact ⟨rfl, bw1 _ _, arr, by show (w.heap.push _)[w.heap.size]? = _; rw [Array.getElem?_push, if_pos rfl], hsz, fun i q hi => absurd hi (Nat.not_lt_zero _)⟩

set_option maxRecDepth 20000 in
set_option maxHeartbeats 1000000 in
theorem tot_none (a : Option Addr) (cap : Nat) (turns : Int) (w : World) :
    Calls Try.prog 37 #[.agg #[.slice a 0 cap, .int .i64 turns]] w fun e w' => (∃ g, w.heap.size ≤ g ∧ e = .returned (.agg #[.slice (some ⟨g, 0, none⟩) 0 0, .int .i64 turns]) ∧ Row w' g 0 []) ∧ Below w.heap.size w w' := by
  go_enter Try.func37, Try.ntmps37
  go_wp2_with fail
  refine (tos_none a cap _).mono ?_
  rintro e w1 ⟨rfl, hx, hR⟩
  obtain ⟨h30, h31, h32⟩ := heap3 w (.cells #[.slice a 0 cap, .int .i64 turns] 50) (.cells #[.slice none 0 0, .int .i64 0] 55) (.cells #[.slice none 0 0, .int .i64 0] 55)
  have b0 := (hx.block w.heap.size (by simp; omega)).trans h30
  have b1 := (hx.block (w.heap.size + 1) (by simp)).trans h31
  have b2 := (hx.block (w.heap.size + 1 + 1) (by simp)).trans h32
  have hB := (bw3 _ _ _ _).trans (hx.mono (by simp; omega))
  obtain ⟨g, hg⟩ : ∃ g, g = (((w.alloc (.cells #[.slice a 0 cap, .int .i64 turns] 50)).alloc (.cells #[.slice none 0 0, .int .i64 0] 55)).alloc (.cells #[.slice none 0 0, .int .i64 0] 55)).heap.size := ⟨_, rfl⟩
  rw [← hg] at hR ⊢
  have hg3 : w.heap.size + 3 = g := by rw [hg]; simp
  have HR : Hid (Row w1 g 0 []) := hR
  clear hR hg hx h30 h31 h32
  have a1 : w1.cell? ⟨w.heap.size, 1, none⟩ = some (.int .i64 turns) := by rw [blk_cell b0]; rfl
  have s0 : w1.cell? ⟨w.heap.size + 1, 0, none⟩ = some (.slice none 0 0) := by rw [blk_cell b1]; rfl
  have s1 : w1.cell? ⟨w.heap.size + 1, 1, none⟩ = some (.int .i64 0) := by rw [blk_cell b1]; rfl
  have o0 : w1.cell? ⟨w.heap.size + 1 + 1, 0, none⟩ = some (.slice none 0 0) := by rw [blk_cell b2]; rfl
  have o1 : w1.cell? ⟨w.heap.size + 1 + 1, 1, none⟩ = some (.int .i64 0) := by rw [blk_cell b2]; rfl
  have z1 := blk_frozen b1
  have z2 := blk_frozen b2
  clear b0 b1 b2
  have HG : Hid (w.heap.size + 3 = g) := hg3
  clear hg3
  go_wp2_with fail
  refine bodyPost_ret (v := .agg #[.slice (some ⟨g, 0, none⟩) 0 0, .int .i64 turns]) (by simp [results, Try.results37, go_sem, s0, s1]) rfl ⟨⟨g, by have := HG.out; omega, rfl, ?_⟩, ?_⟩
  · have := HG.out
    exact (((HR.out.set (by omega) _ _).set (by omega) _ _).set (by omega) _ _).set (by omega) _ _
  · exact (((hB.setCell (p := ⟨w.heap.size + 1 + 1, 0, none⟩) (by simp; omega) _).setCell (p := ⟨w.heap.size + 1 + 1, 1, none⟩) (by simp; omega) _).setCell (p := ⟨w.heap.size + 1, 0, none⟩) (by simp) _).setCell (p := ⟨w.heap.size + 1, 1, none⟩) (by simp) _

/-- The list of a table that came in. -/
def TArg (w : World) (sv : Value) (ps : List PD) : Prop :=
  (∃ a cap, sv = .slice a 0 cap ∧ ps = []) ∨ ∃ b off cap, sv = .slice (some ⟨b, off, none⟩) ps.length cap ∧ PAt w b off ps ∧ b < w.heap.size

theorem TArg.later {w wx : World} {sv : Value} {ps : List PD} (hb : Below w.heap.size w wx) (h : TArg w sv ps) : TArg wx sv ps := by
  rcases h with h | ⟨b, off, cap, h1, h2, h3⟩
  · exact .inl h
  · exact .inr ⟨b, off, cap, h1, h2.later hb, Nat.lt_of_lt_of_le h3 hb.size⟩

theorem szt_arg (sv : Value) (ps : List PD) (turns l : Int) (w : World) (h : TArg w sv ps) (hok : ∀ p ∈ ps, p.ok) (hlm : ps.length ≤ maxLen) (h0 : 0 ≤ l) (h1 : l ≤ 1048576) :
    Calls Try.prog 35 #[.agg #[sv, .int .i64 turns], .int .i64 l] w fun e w' => (∃ r, e = .returned (.int .i64 r) ∧ (r = -1 ∨ (0 ≤ r ∧ r ≤ l - ps.length))) ∧ Below w.heap.size w w' := by
  rcases h with ⟨a, cap, rfl, rfl⟩ | ⟨b, off, cap, rfl, hp, hb⟩
  · exact szt_none a cap turns l w h0 h1
  · exact szt_some b off ps.length cap ps turns l w rfl hp hok hlm hb h0 h1

theorem tot_arg (sv : Value) (ps : List PD) (turns : Int) (w : World) (h : TArg w sv ps) (hl : ps.length ≤ 1048576) :
    Calls Try.prog 37 #[.agg #[sv, .int .i64 turns]] w fun e w' => (∃ g, w.heap.size ≤ g ∧ e = .returned (.agg #[.slice (some ⟨g, 0, none⟩) ps.length ps.length, .int .i64 turns]) ∧ Row w' g ps.length ps) ∧ Below w.heap.size w w' := by
  rcases h with ⟨a, cap, rfl, rfl⟩ | ⟨b, off, cap, rfl, hp, hb⟩
  · exact tot_none a cap turns w
  · exact tot_some b off ps.length cap ps turns w rfl hp hl
end Go.Proofs.Ytkipmogmejfmcaa
