/-
  OWN WORK. The contracts of the makers of answers.
-/
import Derived.Test.YthfneoobflbmfabVal
namespace Go.Proofs.Ythfneoobflbmfab
open Go.RowKit
attribute [local go_sem] run_store_float
set_option linter.unusedVariables false

abbrev RV (c k n : Int) (f : Nat) (s : ByteArray) (r : Int) : Value := .agg #[.int .i64 c, .int .i64 k, .int .i64 n, .float .f64 f, .string s, .int .i64 r]
def b01 (b : Bool) : Int := if b then 1 else 0

set_option maxHeartbeats 400000 in
theorem mk_fail (c : Int) (w : World) : Calls Try.prog 27 #[.int .i64 c] w fun e w' => e = .returned (RV c 0 0 0 ⟨#[]⟩ 0) ∧ Below w.heap.size w w' := by
  go_enter Try.func27, Try.ntmps27
  go_wp2
  exact bodyPost_ret (v := RV c 0 0 0 ⟨#[]⟩ 0) (by simp [results, Try.results27, go_sem]) rfl ⟨rfl, by first | exact Below.refl _ _ | exact bw1 _ _ | exact bw2 _ _ _⟩

set_option maxHeartbeats 400000 in
theorem mk_got (k n : Int) (f : Nat) (s : ByteArray) (r : Int) (w : World) : Calls Try.prog 30 #[VV k n f s r] w fun e w' => e = .returned (RV 0 k n f s r) ∧ Below w.heap.size w w' := by
  go_enter Try.func30, Try.ntmps30
  go_wp2
  exact bodyPost_ret (v := RV 0 k n f s r) (by simp [results, Try.results30, go_sem]) rfl ⟨rfl, by first | exact Below.refl _ _ | exact bw1 _ _ | exact bw2 _ _ _⟩

set_option maxHeartbeats 400000 in
theorem mk_int (n : Int) (w : World) : Calls Try.prog 31 #[.int .i64 n] w fun e w' => e = .returned (VV 2 n 0 ⟨#[]⟩ 0) ∧ Below w.heap.size w w' := by
  go_enter Try.func31, Try.ntmps31
  go_wp2
  exact bodyPost_ret (v := VV 2 n 0 ⟨#[]⟩ 0) (by simp [results, Try.results31, go_sem]) rfl ⟨rfl, by first | exact Below.refl _ _ | exact bw1 _ _ | exact bw2 _ _ _⟩

set_option maxHeartbeats 400000 in
theorem mk_flt (f : Nat) (w : World) : Calls Try.prog 37 #[.float .f64 f] w fun e w' => e = .returned (VV 3 0 f ⟨#[]⟩ 0) ∧ Below w.heap.size w w' := by
  go_enter Try.func37, Try.ntmps37
  go_wp2
  exact bodyPost_ret (v := VV 3 0 f ⟨#[]⟩ 0) (by simp [results, Try.results37, go_sem]) rfl ⟨rfl, by first | exact Below.refl _ _ | exact bw1 _ _ | exact bw2 _ _ _⟩

set_option maxHeartbeats 400000 in
theorem mk_bool (b : Bool) (w : World) : Calls Try.prog 35 #[.bool b] w fun e w' => e = .returned (VV 1 (b01 b) 0 ⟨#[]⟩ 0) ∧ Below w.heap.size w w' := by
  cases b
  · go_enter Try.func35, Try.ntmps35
    go_wp2
    exact bodyPost_ret (v := VV 1 0 0 ⟨#[]⟩ 0) (by simp [results, Try.results35, go_sem]) rfl ⟨rfl, by first | exact Below.refl _ _ | exact bw1 _ _ | exact bw2 _ _ _⟩
  · go_enter Try.func35, Try.ntmps35
    go_wp2
    exact bodyPost_ret (v := VV 1 1 0 ⟨#[]⟩ 0) (by simp [results, Try.results35, go_sem]) rfl ⟨rfl, by first | exact Below.refl _ _ | exact bw1 _ _ | exact bw2 _ _ _⟩

set_option maxHeartbeats 400000 in
theorem ig_fail (c : Int) (w : World) : Calls Try.prog 33 #[.int .i64 c] w fun e w' => e = .returned (RV c 0 0 0 ⟨#[]⟩ 0) ∧ Below w.heap.size w w' := by
  go_enter Try.func33, Try.ntmps33
  go_wp2
  exact bodyPost_ret (v := RV c 0 0 0 ⟨#[]⟩ 0) (by simp [results, Try.results33, go_sem]) rfl ⟨rfl, by first | exact Below.refl _ _ | exact bw1 _ _ | exact bw2 _ _ _⟩

set_option maxHeartbeats 400000 in
theorem ig_int (n : Int) (w : World) : Calls Try.prog 39 #[.int .i64 n] w fun e w' => e = .returned (RV 0 2 n 0 ⟨#[]⟩ 0) ∧ Below w.heap.size w w' := by
  go_enter Try.func39, Try.ntmps39
  go_wp2
  exact bodyPost_ret (v := RV 0 2 n 0 ⟨#[]⟩ 0) (by simp [results, Try.results39, go_sem]) rfl ⟨rfl, by first | exact Below.refl _ _ | exact bw1 _ _ | exact bw2 _ _ _⟩

set_option maxHeartbeats 400000 in
theorem ig_flt (f : Nat) (w : World) : Calls Try.prog 54 #[.float .f64 f] w fun e w' => e = .returned (RV 0 3 0 f ⟨#[]⟩ 0) ∧ Below w.heap.size w w' := by
  go_enter Try.func54, Try.ntmps54
  go_wp2
  exact bodyPost_ret (v := RV 0 3 0 f ⟨#[]⟩ 0) (by simp [results, Try.results54, go_sem]) rfl ⟨rfl, by first | exact Below.refl _ _ | exact bw1 _ _ | exact bw2 _ _ _⟩

set_option maxHeartbeats 400000 in
theorem ig_bool (b : Bool) (w : World) : Calls Try.prog 40 #[.bool b] w fun e w' => e = .returned (RV 0 1 (b01 b) 0 ⟨#[]⟩ 0) ∧ Below w.heap.size w w' := by
  cases b
  · go_enter Try.func40, Try.ntmps40
    go_wp2
    exact bodyPost_ret (v := RV 0 1 0 0 ⟨#[]⟩ 0) (by simp [results, Try.results40, go_sem]) rfl ⟨rfl, by first | exact Below.refl _ _ | exact bw1 _ _ | exact bw2 _ _ _⟩
  · go_enter Try.func40, Try.ntmps40
    go_wp2
    exact bodyPost_ret (v := RV 0 1 1 0 ⟨#[]⟩ 0) (by simp [results, Try.results40, go_sem]) rfl ⟨rfl, by first | exact Below.refl _ _ | exact bw1 _ _ | exact bw2 _ _ _⟩
end Go.Proofs.Ythfneoobflbmfab
