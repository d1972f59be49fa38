/-
  OWN WORK. Tables: the laws' copies.
-/
import Derived.Test.YtkipmogmejfmcaaTabSz
namespace Go.Proofs.Ytkipmogmejfmcaa
open Go.RowKit
attribute [local go_sem] run_store_float
set_option linter.unusedVariables false

set_option maxRecDepth 20000 in
set_option maxHeartbeats 400000 in
theorem szt_some (b off len cap : Nat) (ps : List PD) (turns l : Int) (w : World) (hl : ps.length = len) (hp : PAt w b off ps) (hok : ∀ p ∈ ps, p.ok) (hlm : len ≤ maxLen) (hlt : b < w.heap.size) (h0 : 0 ≤ l) (h1 : l ≤ 1048576) :
    Calls Try.prog 35 #[.agg #[.slice (some ⟨b, off, none⟩) len cap, .int .i64 turns], .int .i64 l] w fun e w' => (∃ r, e = .returned (.int .i64 r) ∧ (r = -1 ∨ (0 ≤ r ∧ r ≤ l - len))) ∧ Below w.heap.size w w' := by
  have HP : Hid (PAt w b off ps) := hp
  clear hp
  go_enter Try.func35, Try.ntmps35
  go_wp2_with fail
  refine (szs_some b off len cap ps l _ hl (HP.out.later (bw1 _ _)) hok hlm h0 h1).mono ?_
  rintro e w1 ⟨⟨r, rfl, hr⟩, hx⟩
  have hb := (bw1 _ _).trans (hx.mono (by simp))
  rcases hr with rfl | ⟨hr0, hr1⟩
  · go_wp2_with fail
    go_ret
    exact ⟨⟨-1, rfl, .inl rfl⟩, hb⟩
  · go_wp2_with fail
    go_ret
    exact ⟨⟨r, rfl, .inr ⟨hr0, hr1⟩⟩, hb⟩

set_option maxHeartbeats 400000 in
theorem to_ex (k n : Int) (f : Nat) (s : ByteArray) (r : Int) (w : World) :
    Calls Try.prog 17 #[VV k n f s r] w fun e w' => e = .returned (VV k n f s r) ∧ w' = ((w.alloc (.cells #[.int .i64 k, .int .i64 n, .float .f64 f, .string s, .int .i64 r] 24)).alloc (VO k n f s r)).alloc (VO k n f s r) := by
  go_enter Try.func17, Try.ntmps17
  go_wp2
  exact bodyPost_ret (v := VV k n f s r) (by simp [results, Try.results17, go_sem]) rfl ⟨rfl, rfl⟩

theorem bwN {w w1 : World} (h : Below w.heap.size w w1) (o : Obj) : Below w.heap.size w (w1.alloc o) := h.alloc h.size o

set_option maxRecDepth 20000 in
set_option maxHeartbeats 1000000 in
theorem top_any (p : PD) (w : World) :
    Calls Try.prog 105 #[PVal p] w fun e w' => e = .returned (PVal p) ∧ Below w.heap.size w w' := by
  go_enter Try.func105, Try.ntmps105
  go_wp2_with (go_at_call 17; refine (to_ex _ _ _ _ _ _).mono ?_; rintro e w' ⟨rfl, rfl⟩)
  refine bodyPost_ret (v := PVal p) (by simp [results, Try.results105, go_sem]) rfl ⟨rfl, ?_⟩
  exact bwN (bwN (bwN (bwN (bwN (bwN (bw3 _ _ _ _) _) _) _) _) _) _
end Go.Proofs.Ytkipmogmejfmcaa
