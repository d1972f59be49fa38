/-
  OWN WORK. The contracts of Truth, the specification's and the program's.
-/
import Derived.Test.YtkipmogmejfmcaaTerm
import Derived.Test.YtkipmogmejfmcaaMeth
namespace Go.Proofs.Ytkipmogmejfmcaa
open Go.RowKit
attribute [local go_sem] run_store_float
attribute [local go_sem] m_nil_truth m_bool_truth m_int_truth m_flt_truth m_str_truth m_builtin_truth m_ref_truth
set_option linter.unusedVariables false

def tru (k n : Int) (f : Nat) (s : ByteArray) (r : Int) : Bool := vok k n f s r && !(k == 0) && (!(k == 1) || n == 1)

theorem vok_kind {k n : Int} {f : Nat} {s : ByteArray} {r : Int} (h : vok k n f s r = true) : k = 0 ∨ k = 1 ∨ k = 2 ∨ k = 3 ∨ k = 4 ∨ k = 5 ∨ k = 6 ∨ k = 7 ∨ k = 8 := by
  unfold vok at h
  repeat' split at h
  all_goals first | omega | (simp at h)

theorem tm_nil {k n : Int} {f : Nat} {s : ByteArray} {r : Int} (h : vok k n f s r = false) : tmV k n f s r = .nilIface := by unfold tmV; rw [if_pos h]
theorem tm0 {n : Int} {f : Nat} {s : ByteArray} {r : Int} (h : vok 0 n f s r = true) : tmV 0 n f s r = .iface 91 (.agg #[]) := by unfold tmV; rw [if_neg (by simp [h])]; simp
theorem tm1 {n : Int} {f : Nat} {s : ByteArray} {r : Int} (h : vok 1 n f s r = true) : tmV 1 n f s r = .iface 122 (.bool (n == 1)) := by unfold tmV; rw [if_neg (by simp [h])]; simp
theorem tm2 {n : Int} {f : Nat} {s : ByteArray} {r : Int} (h : vok 2 n f s r = true) : tmV 2 n f s r = .iface 97 (.int .i64 n) := by unfold tmV; rw [if_neg (by simp [h])]; simp
theorem tm3 {n : Int} {f : Nat} {s : ByteArray} {r : Int} (h : vok 3 n f s r = true) : tmV 3 n f s r = .iface 92 (.float .f64 f) := by unfold tmV; rw [if_neg (by simp [h])]; simp
theorem tm4 {n : Int} {f : Nat} {s : ByteArray} {r : Int} (h : vok 4 n f s r = true) : tmV 4 n f s r = .iface 101 (.string s) := by unfold tmV; rw [if_neg (by simp [h])]; simp
theorem tm5 {n : Int} {f : Nat} {s : ByteArray} {r : Int} (h : vok 5 n f s r = true) : tmV 5 n f s r = .iface 124 (.agg #[.int .i64 5, .int .i64 r]) := by unfold tmV; rw [if_neg (by simp [h])]; simp
theorem tm6 {n : Int} {f : Nat} {s : ByteArray} {r : Int} (h : vok 6 n f s r = true) : tmV 6 n f s r = .iface 124 (.agg #[.int .i64 6, .int .i64 r]) := by unfold tmV; rw [if_neg (by simp [h])]; simp
theorem tm7 {n : Int} {f : Nat} {s : ByteArray} {r : Int} (h : vok 7 n f s r = true) : tmV 7 n f s r = .iface 124 (.agg #[.int .i64 7, .int .i64 r]) := by unfold tmV; rw [if_neg (by simp [h])]; simp
theorem tm8 {n : Int} {f : Nat} {s : ByteArray} {r : Int} (h : vok 8 n f s r = true) : tmV 8 n f s r = .iface 125 (.int .i64 n) := by unfold tmV; rw [if_neg (by simp [h])]; simp

set_option maxRecDepth 20000 in
set_option maxHeartbeats 1000000 in
theorem stru_any (k n : Int) (f : Nat) (s : ByteArray) (r : Int) (w : World) (hs : s.size ≤ maxLen) :
    Calls Try.prog 19 #[VV k n f s r] w fun e w' => e = .returned (.bool (tru k n f s r)) ∧ Below w.heap.size w w' := by
  go_enter Try.func19, Try.ntmps19
  go_wp2_with (go_at_call 16; refine (vok_any _ _ _ _ _ _ hs).mono ?_; rintro e w' ⟨rfl, hb'⟩; obtain ⟨hb, c0, c1, c2, c3, c4⟩ := box5 hb'; clear hb')
  all_goals
    go_ret
    refine ⟨?_, by assumption⟩
    simp_all [tru]

set_option maxRecDepth 20000 in
set_option maxHeartbeats 1000000 in
theorem itru_any (k n : Int) (f : Nat) (s : ByteArray) (r : Int) (w : World) :
    Calls Try.prog 20 #[VV k n f s r] w fun e w' => e = .returned (.bool (tru k n f s r)) ∧ Below w.heap.size w w' := by
  by_cases hv : vok k n f s r = false
  · have ht := tm_nil hv
    go_enter Try.func20, Try.ntmps20
    go_wp2_with (go_at_call 53; refine (term_any _ _ _ _ _ _).mono ?_; rintro e w' ⟨rfl, hb'⟩; obtain ⟨hb, c0, c1, c2, c3, c4⟩ := box5 hb'; clear hb')
    go_ret
    exact ⟨by simp [tru, hv], hb⟩
  · replace hv : vok k n f s r = true := by simpa using hv
    rcases vok_kind hv with rfl | rfl | rfl | rfl | rfl | rfl | rfl | rfl | rfl
    · have ht := tm0 hv
      go_enter Try.func20, Try.ntmps20
      go_wp2_with (first | (go_at_call 53; refine (term_any _ _ _ _ _ _).mono ?_; rintro e w' ⟨rfl, hb'⟩; obtain ⟨hb, c0, c1, c2, c3, c4⟩ := box5 hb'; clear hb') | go_in)
      all_goals
        go_ret
        exact ⟨by first | rfl | simp_all [tru], by first | exact hb | exact hb.alloc hb.size _⟩
    · have ht := tm1 hv
      go_enter Try.func20, Try.ntmps20
      go_wp2_with (first | (go_at_call 53; refine (term_any _ _ _ _ _ _).mono ?_; rintro e w' ⟨rfl, hb'⟩; obtain ⟨hb, c0, c1, c2, c3, c4⟩ := box5 hb'; clear hb') | go_in)
      all_goals
        go_ret
        exact ⟨by first | rfl | simp_all [tru], by first | exact hb | exact hb.alloc hb.size _⟩
    · have ht := tm2 hv
      go_enter Try.func20, Try.ntmps20
      go_wp2_with (first | (go_at_call 53; refine (term_any _ _ _ _ _ _).mono ?_; rintro e w' ⟨rfl, hb'⟩; obtain ⟨hb, c0, c1, c2, c3, c4⟩ := box5 hb'; clear hb') | go_in)
      all_goals
        go_ret
        exact ⟨by first | rfl | simp_all [tru], by first | exact hb | exact hb.alloc hb.size _⟩
    · have ht := tm3 hv
      go_enter Try.func20, Try.ntmps20
      go_wp2_with (first | (go_at_call 53; refine (term_any _ _ _ _ _ _).mono ?_; rintro e w' ⟨rfl, hb'⟩; obtain ⟨hb, c0, c1, c2, c3, c4⟩ := box5 hb'; clear hb') | go_in)
      all_goals
        go_ret
        exact ⟨by first | rfl | simp_all [tru], by first | exact hb | exact hb.alloc hb.size _⟩
    · have ht := tm4 hv
      go_enter Try.func20, Try.ntmps20
      go_wp2_with (first | (go_at_call 53; refine (term_any _ _ _ _ _ _).mono ?_; rintro e w' ⟨rfl, hb'⟩; obtain ⟨hb, c0, c1, c2, c3, c4⟩ := box5 hb'; clear hb') | go_in)
      all_goals
        go_ret
        exact ⟨by first | rfl | simp_all [tru], by first | exact hb | exact hb.alloc hb.size _⟩
    · have ht := tm5 hv
      go_enter Try.func20, Try.ntmps20
      go_wp2_with (first | (go_at_call 53; refine (term_any _ _ _ _ _ _).mono ?_; rintro e w' ⟨rfl, hb'⟩; obtain ⟨hb, c0, c1, c2, c3, c4⟩ := box5 hb'; clear hb') | go_in)
      all_goals
        go_ret
        exact ⟨by first | rfl | simp_all [tru], by first | exact hb | exact hb.alloc hb.size _⟩
    · have ht := tm6 hv
      go_enter Try.func20, Try.ntmps20
      go_wp2_with (first | (go_at_call 53; refine (term_any _ _ _ _ _ _).mono ?_; rintro e w' ⟨rfl, hb'⟩; obtain ⟨hb, c0, c1, c2, c3, c4⟩ := box5 hb'; clear hb') | go_in)
      all_goals
        go_ret
        exact ⟨by first | rfl | simp_all [tru], by first | exact hb | exact hb.alloc hb.size _⟩
    · have ht := tm7 hv
      go_enter Try.func20, Try.ntmps20
      go_wp2_with (first | (go_at_call 53; refine (term_any _ _ _ _ _ _).mono ?_; rintro e w' ⟨rfl, hb'⟩; obtain ⟨hb, c0, c1, c2, c3, c4⟩ := box5 hb'; clear hb') | go_in)
      all_goals
        go_ret
        exact ⟨by first | rfl | simp_all [tru], by first | exact hb | exact hb.alloc hb.size _⟩
    · have ht := tm8 hv
      go_enter Try.func20, Try.ntmps20
      go_wp2_with (first | (go_at_call 53; refine (term_any _ _ _ _ _ _).mono ?_; rintro e w' ⟨rfl, hb'⟩; obtain ⟨hb, c0, c1, c2, c3, c4⟩ := box5 hb'; clear hb') | go_in)
      all_goals
        go_ret
        exact ⟨by first | rfl | simp_all [tru], by first | exact hb | exact hb.alloc hb.size _⟩
end Go.Proofs.Ytkipmogmejfmcaa
