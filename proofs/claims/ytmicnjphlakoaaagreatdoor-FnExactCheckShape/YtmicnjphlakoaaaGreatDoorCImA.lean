/-
  OWN WORK. The program's shape: numbers between two, faults, heads, consts, names, ups.
-/
import Derived.Test.YtmicnjphlakoaaaGreatDoorCSpS
import Derived.Laws.Externs
namespace Go.Proofs.YtmicnjphlakoaaaGreatDoor
open Go.RowKit
attribute [local go_sem] run_store_float
set_option linter.unusedVariables false
set_option linter.unusedSimpArgs false

set_option maxHeartbeats 400000 in
theorem wi_any (x lo hi : Int) (w : World) :
    Calls Tryz.prog 50 #[.int .i64 x, .int .i64 lo, .int .i64 hi] w fun e w' => e = .returned (.bool (inR x lo hi)) ∧ w' = w := by
  by_cases h1 : lo ≤ x
  · by_cases h2 : x ≤ hi
    · go_enter Tryz.func50, Tryz.ntmps50
      go_wp2
      go_ret
      exact ⟨by simp [inR, h1, h2], rfl⟩
    · go_enter Tryz.func50, Tryz.ntmps50
      go_wp2
      go_ret
      exact ⟨by simp [inR, h1, h2], rfl⟩
  · go_enter Tryz.func50, Tryz.ntmps50
    go_wp2
    go_ret
    exact ⟨by simp [inR]; omega, rfl⟩

/-- An error of the program: none, or a fault. -/
def EV : Option F3 → Value
  | none => .nilIface
  | some t => .iface 72 (FV t.1 t.2.1 t.2.2)

set_option maxHeartbeats 400000 in
theorem fat_any (c p i : Int) (w : World) :
    Calls Tryz.prog 27 #[.int .i64 c, .int .i64 p, .int .i64 i] w fun e w' => e = .returned (EV (some (c, p, i))) ∧ w' = w := by
  go_enter Tryz.func27, Tryz.ntmps27
  go_wp2
  go_ret
  exact ⟨rfl, rfl⟩

set_option maxHeartbeats 400000 in
theorem goes_any (op : Int) (w : World) :
    Calls Tryz.prog 55 #[.int .i64 op] w fun e w' => e = .returned (.bool (!endsB op)) ∧ w' = w := by
  cases h1 : (op == 19)
  · cases h2 : (op == 29)
    · cases h3 : (op == 30)
      all_goals
        have h1' : (op != 19) = true := by simp [bne, h1]
        have h2' : (op != 29) = true := by simp [bne, h2]
        have h3' : (op != 30) = !(op == 30) := rfl
        rw [h3] at h3'
        go_enter Tryz.func55, Tryz.ntmps55
        go_wp2
        go_ret
        exact ⟨by simp [endsB, h1, h2, h3, h3'], rfl⟩
    · have h1' : (op != 19) = true := by simp [bne, h1]
      have h2' : (op != 29) = false := by simp [bne, h2]
      go_enter Tryz.func55, Tryz.ntmps55
      go_wp2
      go_ret
      exact ⟨by simp [endsB, h1, h2], rfl⟩
  · have h1' : (op != 19) = false := by simp [bne, h1]
    go_enter Tryz.func55, Tryz.ntmps55
    go_wp2
    go_ret
    exact ⟨by simp [endsB, h1], rfl⟩

set_option maxRecDepth 20000 in
set_option maxHeartbeats 1000000 in
theorem params_any (f : FC) (w : World) (hr0 : 0 ≤ f.d.regs) (hr1 : f.d.regs ≤ 250) :
    Calls Tryz.prog 51 #[PV f] w fun e w' => e = .returned (.bool (inR f.d.params 0 (if f.d.rest then f.d.regs - 1 else f.d.regs))) ∧ Below w.heap.size w w' := by
  cases hr : f.d.rest
  all_goals
    go_enter Tryz.func51, Tryz.ntmps51
    go_wp2_with (go_at_call 50; refine (wi_any _ _ _ _).mono ?_; rintro e w' ⟨rfl, rfl⟩)
    go_ret
    exact ⟨by simp, bw1 _ _⟩

set_option maxHeartbeats 400000 in
theorem isnan_any (x : Nat) (w : World) : Calls Tryz.prog 72 #[.float .f64 x] w fun e w' => e = .returned (.bool (nanB x)) ∧ w' = w := by
  go_enter Tryz.func72, Tryz.ntmps72
  go_wp2
  go_ret
  exact ⟨rfl, rfl⟩

theorem run_bits (x : Nat) (w : World) : (callFunc 81 #[.float .f64 x]).run Tryz.prog w = .ok (.value (.int .u64 x)) w := by
  rw [run_callFunc_extern (e := Extern.MathFloatBits.float64bits) Tryz.func81 (by kernel_rfl) (by kernel_rfl) (by kernel_rfl) (by kernel_rfl)]
  rfl

set_option maxRecDepth 20000 in
set_option maxHeartbeats 400000 in
theorem signbit0 (w : World) : Calls Tryz.prog 73 #[.float .f64 0] w fun e w' => e = .returned (.bool false) ∧ w' = w := by
  have hr := run_bits 0
  go_enter Tryz.func73, Tryz.ntmps73
  go_wp2
  go_ret
  exact ⟨by first | rfl | decide, rfl⟩
set_option maxRecDepth 20000 in
set_option maxHeartbeats 400000 in
theorem signbit1 (w : World) : Calls Tryz.prog 73 #[.float .f64 9223372036854775808] w fun e w' => e = .returned (.bool true) ∧ w' = w := by
  have hr := run_bits 9223372036854775808
  go_enter Tryz.func73, Tryz.ntmps73
  go_wp2
  go_ret
  exact ⟨ret_bo (by decide +kernel), rfl⟩
end Go.Proofs.YtmicnjphlakoaaaGreatDoor
