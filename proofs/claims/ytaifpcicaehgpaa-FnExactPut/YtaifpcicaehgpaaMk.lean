/-
  OWN WORK. The contracts of the makers of answers.
-/
import Derived.Test.YtaifpcicaehgpaaVal
namespace Go.Proofs.Ytaifpcicaehgpaa
open Go.RowKit
attribute [local go_sem] run_store_float
set_option linter.unusedVariables false

abbrev RV (c k n : Int) (f : Nat) (s : ByteArray) (r : Int) : Value := .agg #[.int .i64 c, .int .i64 k, .int .i64 n, .float .f64 f, .string s, .int .i64 r]
def b01 (b : Bool) : Int := if b then 1 else 0

set_option maxHeartbeats 400000 in
theorem mk_fail (c : Int) (w : World) : Calls Try.prog 54 #[.int .i64 c] w fun e w' => e = .returned (RV c 0 0 0 ⟨#[]⟩ 0) ∧ Below w.heap.size w w' := by
  go_enter Try.func54, Try.ntmps54
  go_wp2
  exact bodyPost_ret (v := RV c 0 0 0 ⟨#[]⟩ 0) (by simp [results, Try.results54, go_sem]) rfl ⟨rfl, by first | exact Below.refl _ _ | exact bw1 _ _ | exact bw2 _ _ _⟩

set_option maxHeartbeats 400000 in
theorem mk_got (k n : Int) (f : Nat) (s : ByteArray) (r : Int) (w : World) : Calls Try.prog 56 #[VV k n f s r] w fun e w' => e = .returned (RV 0 k n f s r) ∧ Below w.heap.size w w' := by
  go_enter Try.func56, Try.ntmps56
  go_wp2
  exact bodyPost_ret (v := RV 0 k n f s r) (by simp [results, Try.results56, go_sem]) rfl ⟨rfl, by first | exact Below.refl _ _ | exact bw1 _ _ | exact bw2 _ _ _⟩

set_option maxHeartbeats 400000 in
theorem mk_int (n : Int) (w : World) : Calls Try.prog 57 #[.int .i64 n] w fun e w' => e = .returned (VV 2 n 0 ⟨#[]⟩ 0) ∧ Below w.heap.size w w' := by
  go_enter Try.func57, Try.ntmps57
  go_wp2
  exact bodyPost_ret (v := VV 2 n 0 ⟨#[]⟩ 0) (by simp [results, Try.results57, go_sem]) rfl ⟨rfl, by first | exact Below.refl _ _ | exact bw1 _ _ | exact bw2 _ _ _⟩

set_option maxHeartbeats 400000 in
theorem mk_flt (f : Nat) (w : World) : Calls Try.prog 61 #[.float .f64 f] w fun e w' => e = .returned (VV 3 0 f ⟨#[]⟩ 0) ∧ Below w.heap.size w w' := by
  go_enter Try.func61, Try.ntmps61
  go_wp2
  exact bodyPost_ret (v := VV 3 0 f ⟨#[]⟩ 0) (by simp [results, Try.results61, go_sem]) rfl ⟨rfl, by first | exact Below.refl _ _ | exact bw1 _ _ | exact bw2 _ _ _⟩

set_option maxHeartbeats 400000 in
theorem mk_bool (b : Bool) (w : World) : Calls Try.prog 60 #[.bool b] w fun e w' => e = .returned (VV 1 (b01 b) 0 ⟨#[]⟩ 0) ∧ Below w.heap.size w w' := by
  cases b
  · go_enter Try.func60, Try.ntmps60
    go_wp2
    exact bodyPost_ret (v := VV 1 0 0 ⟨#[]⟩ 0) (by simp [results, Try.results60, go_sem]) rfl ⟨rfl, by first | exact Below.refl _ _ | exact bw1 _ _ | exact bw2 _ _ _⟩
  · go_enter Try.func60, Try.ntmps60
    go_wp2
    exact bodyPost_ret (v := VV 1 1 0 ⟨#[]⟩ 0) (by simp [results, Try.results60, go_sem]) rfl ⟨rfl, by first | exact Below.refl _ _ | exact bw1 _ _ | exact bw2 _ _ _⟩

set_option maxHeartbeats 400000 in
theorem ig_fail (c : Int) (w : World) : Calls Try.prog 58 #[.int .i64 c] w fun e w' => e = .returned (RV c 0 0 0 ⟨#[]⟩ 0) ∧ Below w.heap.size w w' := by
  go_enter Try.func58, Try.ntmps58
  go_wp2
  exact bodyPost_ret (v := RV c 0 0 0 ⟨#[]⟩ 0) (by simp [results, Try.results58, go_sem]) rfl ⟨rfl, by first | exact Below.refl _ _ | exact bw1 _ _ | exact bw2 _ _ _⟩

set_option maxHeartbeats 400000 in
theorem ig_int (n : Int) (w : World) : Calls Try.prog 63 #[.int .i64 n] w fun e w' => e = .returned (RV 0 2 n 0 ⟨#[]⟩ 0) ∧ Below w.heap.size w w' := by
  go_enter Try.func63, Try.ntmps63
  go_wp2
  exact bodyPost_ret (v := RV 0 2 n 0 ⟨#[]⟩ 0) (by simp [results, Try.results63, go_sem]) rfl ⟨rfl, by first | exact Below.refl _ _ | exact bw1 _ _ | exact bw2 _ _ _⟩

set_option maxHeartbeats 400000 in
theorem ig_flt (f : Nat) (w : World) : Calls Try.prog 90 #[.float .f64 f] w fun e w' => e = .returned (RV 0 3 0 f ⟨#[]⟩ 0) ∧ Below w.heap.size w w' := by
  go_enter Try.func90, Try.ntmps90
  go_wp2
  exact bodyPost_ret (v := RV 0 3 0 f ⟨#[]⟩ 0) (by simp [results, Try.results90, go_sem]) rfl ⟨rfl, by first | exact Below.refl _ _ | exact bw1 _ _ | exact bw2 _ _ _⟩

set_option maxHeartbeats 400000 in
theorem ig_bool (b : Bool) (w : World) : Calls Try.prog 64 #[.bool b] w fun e w' => e = .returned (RV 0 1 (b01 b) 0 ⟨#[]⟩ 0) ∧ Below w.heap.size w w' := by
  cases b
  · go_enter Try.func64, Try.ntmps64
    go_wp2
    exact bodyPost_ret (v := RV 0 1 0 0 ⟨#[]⟩ 0) (by simp [results, Try.results64, go_sem]) rfl ⟨rfl, by first | exact Below.refl _ _ | exact bw1 _ _ | exact bw2 _ _ _⟩
  · go_enter Try.func64, Try.ntmps64
    go_wp2
    exact bodyPost_ret (v := RV 0 1 1 0 ⟨#[]⟩ 0) (by simp [results, Try.results64, go_sem]) rfl ⟨rfl, by first | exact Below.refl _ _ | exact bw1 _ _ | exact bw2 _ _ _⟩
end Go.Proofs.Ytaifpcicaehgpaa
