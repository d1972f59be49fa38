/-
  OWN WORK. The contracts of the makers of answers.
-/
import Derived.Test.YtkipmogmejfmcaaVal
namespace Go.Proofs.Ytkipmogmejfmcaa
open Go.RowKit
attribute [local go_sem] run_store_float
set_option linter.unusedVariables false

abbrev RV (c k n : Int) (f : Nat) (s : ByteArray) (r : Int) : Value := .agg #[.int .i64 c, .int .i64 k, .int .i64 n, .float .f64 f, .string s, .int .i64 r]
def b01 (b : Bool) : Int := if b then 1 else 0

set_option maxHeartbeats 400000 in
theorem mk_fail (c : Int) (w : World) : Calls Try.prog 65 #[.int .i64 c] w fun e w' => e = .returned (RV c 0 0 0 ⟨#[]⟩ 0) ∧ Below w.heap.size w w' := by
  go_enter Try.func65, Try.ntmps65
  go_wp2
  exact bodyPost_ret (v := RV c 0 0 0 ⟨#[]⟩ 0) (by simp [results, Try.results65, go_sem]) rfl ⟨rfl, by first | exact Below.refl _ _ | exact bw1 _ _ | exact bw2 _ _ _⟩

set_option maxHeartbeats 400000 in
theorem mk_got (k n : Int) (f : Nat) (s : ByteArray) (r : Int) (w : World) : Calls Try.prog 67 #[VV k n f s r] w fun e w' => e = .returned (RV 0 k n f s r) ∧ Below w.heap.size w w' := by
  go_enter Try.func67, Try.ntmps67
  go_wp2
  exact bodyPost_ret (v := RV 0 k n f s r) (by simp [results, Try.results67, go_sem]) rfl ⟨rfl, by first | exact Below.refl _ _ | exact bw1 _ _ | exact bw2 _ _ _⟩

set_option maxHeartbeats 400000 in
theorem mk_int (n : Int) (w : World) : Calls Try.prog 68 #[.int .i64 n] w fun e w' => e = .returned (VV 2 n 0 ⟨#[]⟩ 0) ∧ Below w.heap.size w w' := by
  go_enter Try.func68, Try.ntmps68
  go_wp2
  exact bodyPost_ret (v := VV 2 n 0 ⟨#[]⟩ 0) (by simp [results, Try.results68, go_sem]) rfl ⟨rfl, by first | exact Below.refl _ _ | exact bw1 _ _ | exact bw2 _ _ _⟩

set_option maxHeartbeats 400000 in
theorem mk_flt (f : Nat) (w : World) : Calls Try.prog 72 #[.float .f64 f] w fun e w' => e = .returned (VV 3 0 f ⟨#[]⟩ 0) ∧ Below w.heap.size w w' := by
  go_enter Try.func72, Try.ntmps72
  go_wp2
  exact bodyPost_ret (v := VV 3 0 f ⟨#[]⟩ 0) (by simp [results, Try.results72, go_sem]) rfl ⟨rfl, by first | exact Below.refl _ _ | exact bw1 _ _ | exact bw2 _ _ _⟩

set_option maxHeartbeats 400000 in
theorem mk_bool (b : Bool) (w : World) : Calls Try.prog 71 #[.bool b] w fun e w' => e = .returned (VV 1 (b01 b) 0 ⟨#[]⟩ 0) ∧ Below w.heap.size w w' := by
  cases b
  · go_enter Try.func71, Try.ntmps71
    go_wp2
    exact bodyPost_ret (v := VV 1 0 0 ⟨#[]⟩ 0) (by simp [results, Try.results71, go_sem]) rfl ⟨rfl, by first | exact Below.refl _ _ | exact bw1 _ _ | exact bw2 _ _ _⟩
  · go_enter Try.func71, Try.ntmps71
    go_wp2
    exact bodyPost_ret (v := VV 1 1 0 ⟨#[]⟩ 0) (by simp [results, Try.results71, go_sem]) rfl ⟨rfl, by first | exact Below.refl _ _ | exact bw1 _ _ | exact bw2 _ _ _⟩

set_option maxHeartbeats 400000 in
theorem ig_fail (c : Int) (w : World) : Calls Try.prog 69 #[.int .i64 c] w fun e w' => e = .returned (RV c 0 0 0 ⟨#[]⟩ 0) ∧ Below w.heap.size w w' := by
  go_enter Try.func69, Try.ntmps69
  go_wp2
  exact bodyPost_ret (v := RV c 0 0 0 ⟨#[]⟩ 0) (by simp [results, Try.results69, go_sem]) rfl ⟨rfl, by first | exact Below.refl _ _ | exact bw1 _ _ | exact bw2 _ _ _⟩

set_option maxHeartbeats 400000 in
theorem ig_int (n : Int) (w : World) : Calls Try.prog 74 #[.int .i64 n] w fun e w' => e = .returned (RV 0 2 n 0 ⟨#[]⟩ 0) ∧ Below w.heap.size w w' := by
  go_enter Try.func74, Try.ntmps74
  go_wp2
  exact bodyPost_ret (v := RV 0 2 n 0 ⟨#[]⟩ 0) (by simp [results, Try.results74, go_sem]) rfl ⟨rfl, by first | exact Below.refl _ _ | exact bw1 _ _ | exact bw2 _ _ _⟩

set_option maxHeartbeats 400000 in
theorem ig_flt (f : Nat) (w : World) : Calls Try.prog 103 #[.float .f64 f] w fun e w' => e = .returned (RV 0 3 0 f ⟨#[]⟩ 0) ∧ Below w.heap.size w w' := by
  go_enter Try.func103, Try.ntmps103
  go_wp2
  exact bodyPost_ret (v := RV 0 3 0 f ⟨#[]⟩ 0) (by simp [results, Try.results103, go_sem]) rfl ⟨rfl, by first | exact Below.refl _ _ | exact bw1 _ _ | exact bw2 _ _ _⟩

set_option maxHeartbeats 400000 in
theorem ig_bool (b : Bool) (w : World) : Calls Try.prog 75 #[.bool b] w fun e w' => e = .returned (RV 0 1 (b01 b) 0 ⟨#[]⟩ 0) ∧ Below w.heap.size w w' := by
  cases b
  · go_enter Try.func75, Try.ntmps75
    go_wp2
    exact bodyPost_ret (v := RV 0 1 0 0 ⟨#[]⟩ 0) (by simp [results, Try.results75, go_sem]) rfl ⟨rfl, by first | exact Below.refl _ _ | exact bw1 _ _ | exact bw2 _ _ _⟩
  · go_enter Try.func75, Try.ntmps75
    go_wp2
    exact bodyPost_ret (v := RV 0 1 1 0 ⟨#[]⟩ 0) (by simp [results, Try.results75, go_sem]) rfl ⟨rfl, by first | exact Below.refl _ _ | exact bw1 _ _ | exact bw2 _ _ _⟩
end Go.Proofs.Ytkipmogmejfmcaa
