/-
  OWN WORK. The contracts of the makers of answers.
-/
import Derived.Test.YtdfgffamjioeoaaGreatDoorVal
namespace Go.Proofs.YtdfgffamjioeoaaGreatDoor
open Go.RowKit
attribute [local go_sem] run_store_float
set_option linter.unusedVariables false

abbrev RV (c k n : Int) (f : Nat) (s : ByteArray) (r : Int) : Value := .agg #[.int .i64 c, .int .i64 k, .int .i64 n, .float .f64 f, .string s, .int .i64 r]
def b01 (b : Bool) : Int := if b then 1 else 0

set_option maxHeartbeats 400000 in
theorem mk_int (n : Int) (w : World) : Calls Tryz.prog 119 #[.int .i64 n] w fun e w' => e = .returned (VV 2 n 0 ⟨#[]⟩ 0) ∧ Below w.heap.size w w' := by
  go_enter Tryz.func119, Tryz.ntmps119
  go_wp2
  exact bodyPost_ret (v := VV 2 n 0 ⟨#[]⟩ 0) (by simp [results, Tryz.results119, go_sem]) rfl ⟨rfl, by first | exact Below.refl _ _ | exact bw1 _ _ | exact bw2 _ _ _⟩

set_option maxHeartbeats 400000 in
theorem mk_flt (f : Nat) (w : World) : Calls Tryz.prog 174 #[.float .f64 f] w fun e w' => e = .returned (VV 3 0 f ⟨#[]⟩ 0) ∧ Below w.heap.size w w' := by
  go_enter Tryz.func174, Tryz.ntmps174
  go_wp2
  exact bodyPost_ret (v := VV 3 0 f ⟨#[]⟩ 0) (by simp [results, Tryz.results174, go_sem]) rfl ⟨rfl, by first | exact Below.refl _ _ | exact bw1 _ _ | exact bw2 _ _ _⟩

set_option maxHeartbeats 400000 in
theorem mk_bool (b : Bool) (w : World) : Calls Tryz.prog 172 #[.bool b] w fun e w' => e = .returned (VV 1 (b01 b) 0 ⟨#[]⟩ 0) ∧ Below w.heap.size w w' := by
  cases b
  · go_enter Tryz.func172, Tryz.ntmps172
    go_wp2
    exact bodyPost_ret (v := VV 1 0 0 ⟨#[]⟩ 0) (by simp [results, Tryz.results172, go_sem]) rfl ⟨rfl, by first | exact Below.refl _ _ | exact bw1 _ _ | exact bw2 _ _ _⟩
  · go_enter Tryz.func172, Tryz.ntmps172
    go_wp2
    exact bodyPost_ret (v := VV 1 1 0 ⟨#[]⟩ 0) (by simp [results, Tryz.results172, go_sem]) rfl ⟨rfl, by first | exact Below.refl _ _ | exact bw1 _ _ | exact bw2 _ _ _⟩