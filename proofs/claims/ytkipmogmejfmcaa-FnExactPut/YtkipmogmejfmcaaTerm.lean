/-
  OWN WORK. The contracts of the program's validity: unusedEmpty, termOf, ValueOk.
-/
import Derived.Test.YtkipmogmejfmcaaVal
namespace Go.Proofs.Ytkipmogmejfmcaa
open Go.RowKit
attribute [local go_sem] run_store_float
attribute [local go_sem] run_equalIn_float
set_option linter.unusedVariables false

def ue (k n : Int) (f : Nat) (s : ByteArray) (r : Int) : Bool := zr (k == 1 || k == 2 || k == 8) (k == 3) (k == 4) (k == 5 || k == 6 || k == 7) n f s r

set_option maxRecDepth 20000 in
set_option maxHeartbeats 1000000 in
theorem empty_any (k n : Int) (f : Nat) (s : ByteArray) (r : Int) (w : World) :
    Calls Try.prog 93 #[VV k n f s r] w fun e w' => e = .returned (.bool (ue k n f s r)) ∧ Below w.heap.size w w' := by
  go_enter Try.func93, Try.ntmps93
  go_wp2
  all_goals
    go_ret
    refine ⟨?_, by exact bw1 _ _⟩
    simp_all [ue, zr, fz]

def tmV (k n : Int) (f : Nat) (s : ByteArray) (r : Int) : Value :=
  if vok k n f s r = false then .nilIface
  else if k = 0 then .iface 91 (.agg #[])
  else if k = 1 then .iface 122 (.bool (n == 1))
  else if k = 2 then .iface 97 (.int .i64 n)
  else if k = 3 then .iface 92 (.float .f64 f)
  else if k = 4 then .iface 101 (.string s)
  else if k = 8 then .iface 125 (.int .i64 n)
  else .iface 124 (.agg #[.int .i64 k, .int .i64 r])

theorem vok_of_ue {k n : Int} {f : Nat} {s : ByteArray} {r : Int} (h : ue k n f s r = false) : vok k n f s r = false := by
  unfold vok
  repeat' split
  all_goals simp_all [ue]
  rename_i h5
  rcases h5 with rfl | rfl | rfl <;> simp_all

set_option maxRecDepth 20000 in
set_option maxHeartbeats 1000000 in
theorem term_any (k n : Int) (f : Nat) (s : ByteArray) (r : Int) (w : World) :
    Calls Try.prog 53 #[VV k n f s r] w fun e w' => e = .returned (tmV k n f s r) ∧ Below w.heap.size w w' := by
  by_cases hu : ue k n f s r = false
  · have hv : tmV k n f s r = .nilIface := by unfold tmV; rw [if_pos (vok_of_ue hu)]
    have hV : Hid (tmV k n f s r = .nilIface) := hv
    clear hv
    go_enter Try.func53, Try.ntmps53
    go_wp2_with (go_at_call 93; refine (empty_any _ _ _ _ _ _).mono ?_; rintro e w' ⟨rfl, hb'⟩; obtain ⟨hb, c0, c1, c2, c3, c4⟩ := box5 hb'; clear hb')
    go_ret
    exact ⟨by rw [hV.out]; rfl, hb⟩
  · go_enter Try.func53, Try.ntmps53
    go_wp2_with (go_at_call 93; refine (empty_any _ _ _ _ _ _).mono ?_; rintro e w' ⟨rfl, hb'⟩; obtain ⟨hb, c0, c1, c2, c3, c4⟩ := box5 hb'; clear hb')
    all_goals
      go_ret
      refine ⟨?_, by assumption⟩
      simp_all [tmV, vok, ue]
      try omega

set_option maxRecDepth 20000 in
set_option maxHeartbeats 1000000 in
theorem iok_any (k n : Int) (f : Nat) (s : ByteArray) (r : Int) (w : World) :
    Calls Try.prog 18 #[VV k n f s r] w fun e w' => e = .returned (.bool (vok k n f s r)) ∧ Below w.heap.size w w' := by
  by_cases hv : vok k n f s r = false
  · have ht : tmV k n f s r = .nilIface := by unfold tmV; rw [if_pos hv]
    go_enter Try.func18, Try.ntmps18
    go_wp2_with (go_at_call 53; refine (term_any _ _ _ _ _ _).mono ?_; rintro e w' ⟨rfl, hb'⟩; obtain ⟨hb, c0, c1, c2, c3, c4⟩ := box5 hb'; clear hb')
    go_ret
    exact ⟨by first | rfl | (rw [hv]; rfl), hb⟩
  · have ht : ∃ t x, tmV k n f s r = .iface t x := by unfold tmV; rw [if_neg hv]; repeat' split
                                                      all_goals exact ⟨_, _, rfl⟩
    obtain ⟨t, x, ht⟩ := ht
    have hv' : vok k n f s r = true := by simpa using hv
    go_enter Try.func18, Try.ntmps18
    go_wp2_with (go_at_call 53; refine (term_any _ _ _ _ _ _).mono ?_; rintro e w' ⟨rfl, hb'⟩; obtain ⟨hb, c0, c1, c2, c3, c4⟩ := box5 hb'; clear hb')
    go_ret
    exact ⟨by first | rfl | (rw [hv']; rfl), hb⟩
end Go.Proofs.Ytkipmogmejfmcaa
