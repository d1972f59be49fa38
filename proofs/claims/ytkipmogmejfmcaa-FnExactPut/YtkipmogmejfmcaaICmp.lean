/-
  OWN WORK. Compare, the program's: terms held against each other, case by case.
-/
import Derived.Test.YtkipmogmejfmcaaCmp
import Derived.Test.YtkipmogmejfmcaaAssert
namespace Go.Proofs.Ytkipmogmejfmcaa
open Go.RowKit
attribute [local go_sem] ta_nil_str ta_bool_str ta_int_str ta_flt_str ta_str_str ta_builtin_str ta_ref_str ta_none_str ta_nil_int ta_bool_int ta_int_int ta_flt_int ta_str_int ta_builtin_int ta_ref_int ta_none_int ta_nil_flt ta_bool_flt ta_int_flt ta_flt_flt ta_str_flt ta_builtin_flt ta_ref_flt ta_none_flt ta_nil_nil ta_bool_nil ta_int_nil ta_flt_nil ta_str_nil ta_builtin_nil ta_ref_nil ta_none_nil
set_option linter.unusedVariables false

set_option maxRecDepth 20000 in
set_option maxHeartbeats 400000 in
theorem ct_ss (a b : ByteArray) (w : World)  :
    Calls Try.prog 63 #[.iface 101 (.string a), .iface 101 (.string b)] w fun e w' => e = .returned (.int .i64 (scmp a.toList b.toList)) ∧ w' = w := by
  go_enter Try.func63, Try.ntmps63
  go_wp2_with fail
  refine (icmp_str _ _ _).mono ?_
  rintro e w0 ⟨rfl, rfl⟩
  go_wp2_with fail
  go_ret
  exact ⟨by first | rfl | simp_all, rfl⟩

set_option maxRecDepth 20000 in
set_option maxHeartbeats 400000 in
theorem ct_ii (a b : Int) (w : World)  :
    Calls Try.prog 63 #[.iface 97 (.int .i64 a), .iface 97 (.int .i64 b)] w fun e w' => e = .returned (.int .i64 (ncmp a b)) ∧ w' = w := by
  go_enter Try.func63, Try.ntmps63
  go_wp2_with fail
  refine (icmp_int _ _ _).mono ?_
  rintro e w0 ⟨rfl, rfl⟩
  go_wp2_with fail
  go_ret
  exact ⟨by first | rfl | simp_all, rfl⟩

set_option maxRecDepth 20000 in
set_option maxHeartbeats 400000 in
theorem ct_if (a : Int) (b : Nat) (w : World) (c : Int) (hk : ∀ w : World, Calls Try.prog 98 #[.int .i64 a, .float .f64 b] w fun e w' => e = .returned (.int .i64 c) ∧ w' = w) :
    Calls Try.prog 63 #[.iface 97 (.int .i64 a), .iface 92 (.float .f64 b)] w fun e w' => e = .returned (.int .i64 (c)) ∧ w' = w := by
  go_enter Try.func63, Try.ntmps63
  go_wp2_with fail
  refine (hk _).mono ?_
  rintro e w0 ⟨rfl, rfl⟩
  go_wp2_with fail
  go_ret
  exact ⟨by first | rfl | simp_all, rfl⟩

set_option maxRecDepth 20000 in
set_option maxHeartbeats 400000 in
theorem ct_fi_m1 (a : Nat) (b : Int) (w : World) (hk : ∀ w : World, Calls Try.prog 98 #[.int .i64 b, .float .f64 a] w fun e w' => e = .returned (.int .i64 (-1)) ∧ w' = w) :
    Calls Try.prog 63 #[.iface 92 (.float .f64 a), .iface 97 (.int .i64 b)] w fun e w' => e = .returned (.int .i64 (1)) ∧ w' = w := by
  go_enter Try.func63, Try.ntmps63
  go_wp2_with fail
  refine (hk _).mono ?_
  rintro e w0 ⟨rfl, rfl⟩
  go_wp2_with fail
  refine (trn_m1 _).mono ?_
  rintro e w1 ⟨rfl, rfl⟩
  go_wp2_with fail
  go_ret
  exact ⟨by first | rfl | simp_all, rfl⟩

set_option maxRecDepth 20000 in
set_option maxHeartbeats 400000 in
theorem ct_fi_0 (a : Nat) (b : Int) (w : World) (hk : ∀ w : World, Calls Try.prog 98 #[.int .i64 b, .float .f64 a] w fun e w' => e = .returned (.int .i64 (0)) ∧ w' = w) :
    Calls Try.prog 63 #[.iface 92 (.float .f64 a), .iface 97 (.int .i64 b)] w fun e w' => e = .returned (.int .i64 (0)) ∧ w' = w := by
  go_enter Try.func63, Try.ntmps63
  go_wp2_with fail
  refine (hk _).mono ?_
  rintro e w0 ⟨rfl, rfl⟩
  go_wp2_with fail
  refine (trn_0 _).mono ?_
  rintro e w1 ⟨rfl, rfl⟩
  go_wp2_with fail
  go_ret
  exact ⟨by first | rfl | simp_all, rfl⟩

set_option maxRecDepth 20000 in
set_option maxHeartbeats 400000 in
theorem ct_fi_1 (a : Nat) (b : Int) (w : World) (hk : ∀ w : World, Calls Try.prog 98 #[.int .i64 b, .float .f64 a] w fun e w' => e = .returned (.int .i64 (1)) ∧ w' = w) :
    Calls Try.prog 63 #[.iface 92 (.float .f64 a), .iface 97 (.int .i64 b)] w fun e w' => e = .returned (.int .i64 (-1)) ∧ w' = w := by
  go_enter Try.func63, Try.ntmps63
  go_wp2_with fail
  refine (hk _).mono ?_
  rintro e w0 ⟨rfl, rfl⟩
  go_wp2_with fail
  refine (trn_1 _).mono ?_
  rintro e w1 ⟨rfl, rfl⟩
  go_wp2_with fail
  go_ret
  exact ⟨by first | rfl | simp_all, rfl⟩

set_option maxRecDepth 20000 in
set_option maxHeartbeats 400000 in
theorem ct_fi_2 (a : Nat) (b : Int) (w : World) (hk : ∀ w : World, Calls Try.prog 98 #[.int .i64 b, .float .f64 a] w fun e w' => e = .returned (.int .i64 (2)) ∧ w' = w) :
    Calls Try.prog 63 #[.iface 92 (.float .f64 a), .iface 97 (.int .i64 b)] w fun e w' => e = .returned (.int .i64 (2)) ∧ w' = w := by
  go_enter Try.func63, Try.ntmps63
  go_wp2_with fail
  refine (hk _).mono ?_
  rintro e w0 ⟨rfl, rfl⟩
  go_wp2_with fail
  refine (trn_2 _).mono ?_
  rintro e w1 ⟨rfl, rfl⟩
  go_wp2_with fail
  go_ret
  exact ⟨by first | rfl | simp_all, rfl⟩

set_option maxRecDepth 20000 in
set_option maxHeartbeats 400000 in
theorem ct_ff (a b : Nat) (w : World)  :
    Calls Try.prog 63 #[.iface 92 (.float .f64 a), .iface 92 (.float .f64 b)] w fun e w' => e = .returned (.int .i64 (ocmp (FloatKind.f64.format.order a b))) ∧ w' = w := by
  go_enter Try.func63, Try.ntmps63
  go_wp2_with fail
  refine (cfl_any _ _ _).mono ?_
  rintro e w0 ⟨rfl, rfl⟩
  go_wp2_with fail
  go_ret
  exact ⟨by first | rfl | simp_all, rfl⟩

set_option maxRecDepth 20000 in
set_option maxHeartbeats 400000 in
theorem ct_x_nil (v y : Value) (w : World)  :
    Calls Try.prog 63 #[.iface 91 (v), y] w fun e w' => e = .returned (.int .i64 (3)) ∧ w' = w := by
  go_enter Try.func63, Try.ntmps63
  go_wp2_with fail
  go_ret
  exact ⟨by first | rfl | simp_all, rfl⟩

set_option maxRecDepth 20000 in
set_option maxHeartbeats 400000 in
theorem ct_x_bool (v y : Value) (w : World)  :
    Calls Try.prog 63 #[.iface 122 (v), y] w fun e w' => e = .returned (.int .i64 (3)) ∧ w' = w := by
  go_enter Try.func63, Try.ntmps63
  go_wp2_with fail
  go_ret
  exact ⟨by first | rfl | simp_all, rfl⟩

set_option maxRecDepth 20000 in
set_option maxHeartbeats 400000 in
theorem ct_x_builtin (v y : Value) (w : World)  :
    Calls Try.prog 63 #[.iface 125 (v), y] w fun e w' => e = .returned (.int .i64 (3)) ∧ w' = w := by
  go_enter Try.func63, Try.ntmps63
  go_wp2_with fail
  go_ret
  exact ⟨by first | rfl | simp_all, rfl⟩

set_option maxRecDepth 20000 in
set_option maxHeartbeats 400000 in
theorem ct_x_ref (v y : Value) (w : World)  :
    Calls Try.prog 63 #[.iface 124 (v), y] w fun e w' => e = .returned (.int .i64 (3)) ∧ w' = w := by
  go_enter Try.func63, Try.ntmps63
  go_wp2_with fail
  go_ret
  exact ⟨by first | rfl | simp_all, rfl⟩

set_option maxRecDepth 20000 in
set_option maxHeartbeats 400000 in
theorem ct_x_none (y : Value) (w : World)  :
    Calls Try.prog 63 #[.nilIface, y] w fun e w' => e = .returned (.int .i64 (3)) ∧ w' = w := by
  go_enter Try.func63, Try.ntmps63
  go_wp2_with fail
  go_ret
  exact ⟨by first | rfl | simp_all, rfl⟩

set_option maxRecDepth 20000 in
set_option maxHeartbeats 400000 in
theorem ct_str_nil (a : ByteArray) (v : Value) (w : World)  :
    Calls Try.prog 63 #[.iface 101 (.string a), .iface 91 (v)] w fun e w' => e = .returned (.int .i64 (3)) ∧ w' = w := by
  go_enter Try.func63, Try.ntmps63
  go_wp2_with fail
  go_ret
  exact ⟨by first | rfl | simp_all, rfl⟩

set_option maxRecDepth 20000 in
set_option maxHeartbeats 400000 in
theorem ct_str_bool (a : ByteArray) (v : Value) (w : World)  :
    Calls Try.prog 63 #[.iface 101 (.string a), .iface 122 (v)] w fun e w' => e = .returned (.int .i64 (3)) ∧ w' = w := by
  go_enter Try.func63, Try.ntmps63
  go_wp2_with fail
  go_ret
  exact ⟨by first | rfl | simp_all, rfl⟩

set_option maxRecDepth 20000 in
set_option maxHeartbeats 400000 in
theorem ct_str_int (a : ByteArray) (v : Value) (w : World)  :
    Calls Try.prog 63 #[.iface 101 (.string a), .iface 97 (v)] w fun e w' => e = .returned (.int .i64 (3)) ∧ w' = w := by
  go_enter Try.func63, Try.ntmps63
  go_wp2_with fail
  go_ret
  exact ⟨by first | rfl | simp_all, rfl⟩

set_option maxRecDepth 20000 in
set_option maxHeartbeats 400000 in
theorem ct_str_flt (a : ByteArray) (v : Value) (w : World)  :
    Calls Try.prog 63 #[.iface 101 (.string a), .iface 92 (v)] w fun e w' => e = .returned (.int .i64 (3)) ∧ w' = w := by
  go_enter Try.func63, Try.ntmps63
  go_wp2_with fail
  go_ret
  exact ⟨by first | rfl | simp_all, rfl⟩

set_option maxRecDepth 20000 in
set_option maxHeartbeats 400000 in
theorem ct_str_builtin (a : ByteArray) (v : Value) (w : World)  :
    Calls Try.prog 63 #[.iface 101 (.string a), .iface 125 (v)] w fun e w' => e = .returned (.int .i64 (3)) ∧ w' = w := by
  go_enter Try.func63, Try.ntmps63
  go_wp2_with fail
  go_ret
  exact ⟨by first | rfl | simp_all, rfl⟩

set_option maxRecDepth 20000 in
set_option maxHeartbeats 400000 in
theorem ct_str_ref (a : ByteArray) (v : Value) (w : World)  :
    Calls Try.prog 63 #[.iface 101 (.string a), .iface 124 (v)] w fun e w' => e = .returned (.int .i64 (3)) ∧ w' = w := by
  go_enter Try.func63, Try.ntmps63
  go_wp2_with fail
  go_ret
  exact ⟨by first | rfl | simp_all, rfl⟩

set_option maxRecDepth 20000 in
set_option maxHeartbeats 400000 in
theorem ct_str_none (a : ByteArray) (w : World)  :
    Calls Try.prog 63 #[.iface 101 (.string a), .nilIface] w fun e w' => e = .returned (.int .i64 (3)) ∧ w' = w := by
  go_enter Try.func63, Try.ntmps63
  go_wp2_with fail
  go_ret
  exact ⟨by first | rfl | simp_all, rfl⟩

set_option maxRecDepth 20000 in
set_option maxHeartbeats 400000 in
theorem ct_int_nil (a : Int) (v : Value) (w : World)  :
    Calls Try.prog 63 #[.iface 97 (.int .i64 a), .iface 91 (v)] w fun e w' => e = .returned (.int .i64 (3)) ∧ w' = w := by
  go_enter Try.func63, Try.ntmps63
  go_wp2_with fail
  go_ret
  exact ⟨by first | rfl | simp_all, rfl⟩

set_option maxRecDepth 20000 in
set_option maxHeartbeats 400000 in
theorem ct_int_bool (a : Int) (v : Value) (w : World)  :
    Calls Try.prog 63 #[.iface 97 (.int .i64 a), .iface 122 (v)] w fun e w' => e = .returned (.int .i64 (3)) ∧ w' = w := by
  go_enter Try.func63, Try.ntmps63
  go_wp2_with fail
  go_ret
  exact ⟨by first | rfl | simp_all, rfl⟩

set_option maxRecDepth 20000 in
set_option maxHeartbeats 400000 in
theorem ct_int_str (a : Int) (v : Value) (w : World)  :
    Calls Try.prog 63 #[.iface 97 (.int .i64 a), .iface 101 (v)] w fun e w' => e = .returned (.int .i64 (3)) ∧ w' = w := by
  go_enter Try.func63, Try.ntmps63
  go_wp2_with fail
  go_ret
  exact ⟨by first | rfl | simp_all, rfl⟩

set_option maxRecDepth 20000 in
set_option maxHeartbeats 400000 in
theorem ct_int_builtin (a : Int) (v : Value) (w : World)  :
    Calls Try.prog 63 #[.iface 97 (.int .i64 a), .iface 125 (v)] w fun e w' => e = .returned (.int .i64 (3)) ∧ w' = w := by
  go_enter Try.func63, Try.ntmps63
  go_wp2_with fail
  go_ret
  exact ⟨by first | rfl | simp_all, rfl⟩

set_option maxRecDepth 20000 in
set_option maxHeartbeats 400000 in
theorem ct_int_ref (a : Int) (v : Value) (w : World)  :
    Calls Try.prog 63 #[.iface 97 (.int .i64 a), .iface 124 (v)] w fun e w' => e = .returned (.int .i64 (3)) ∧ w' = w := by
  go_enter Try.func63, Try.ntmps63
  go_wp2_with fail
  go_ret
  exact ⟨by first | rfl | simp_all, rfl⟩

set_option maxRecDepth 20000 in
set_option maxHeartbeats 400000 in
theorem ct_int_none (a : Int) (w : World)  :
    Calls Try.prog 63 #[.iface 97 (.int .i64 a), .nilIface] w fun e w' => e = .returned (.int .i64 (3)) ∧ w' = w := by
  go_enter Try.func63, Try.ntmps63
  go_wp2_with fail
  go_ret
  exact ⟨by first | rfl | simp_all, rfl⟩

set_option maxRecDepth 20000 in
set_option maxHeartbeats 400000 in
theorem ct_flt_nil (a : Nat) (v : Value) (w : World)  :
    Calls Try.prog 63 #[.iface 92 (.float .f64 a), .iface 91 (v)] w fun e w' => e = .returned (.int .i64 (3)) ∧ w' = w := by
  go_enter Try.func63, Try.ntmps63
  go_wp2_with fail
  go_ret
  exact ⟨by first | rfl | simp_all, rfl⟩

set_option maxRecDepth 20000 in
set_option maxHeartbeats 400000 in
theorem ct_flt_bool (a : Nat) (v : Value) (w : World)  :
    Calls Try.prog 63 #[.iface 92 (.float .f64 a), .iface 122 (v)] w fun e w' => e = .returned (.int .i64 (3)) ∧ w' = w := by
  go_enter Try.func63, Try.ntmps63
  go_wp2_with fail
  go_ret
  exact ⟨by first | rfl | simp_all, rfl⟩

set_option maxRecDepth 20000 in
set_option maxHeartbeats 400000 in
theorem ct_flt_str (a : Nat) (v : Value) (w : World)  :
    Calls Try.prog 63 #[.iface 92 (.float .f64 a), .iface 101 (v)] w fun e w' => e = .returned (.int .i64 (3)) ∧ w' = w := by
  go_enter Try.func63, Try.ntmps63
  go_wp2_with fail
  go_ret
  exact ⟨by first | rfl | simp_all, rfl⟩

set_option maxRecDepth 20000 in
set_option maxHeartbeats 400000 in
theorem ct_flt_builtin (a : Nat) (v : Value) (w : World)  :
    Calls Try.prog 63 #[.iface 92 (.float .f64 a), .iface 125 (v)] w fun e w' => e = .returned (.int .i64 (3)) ∧ w' = w := by
  go_enter Try.func63, Try.ntmps63
  go_wp2_with fail
  go_ret
  exact ⟨by first | rfl | simp_all, rfl⟩

set_option maxRecDepth 20000 in
set_option maxHeartbeats 400000 in
theorem ct_flt_ref (a : Nat) (v : Value) (w : World)  :
    Calls Try.prog 63 #[.iface 92 (.float .f64 a), .iface 124 (v)] w fun e w' => e = .returned (.int .i64 (3)) ∧ w' = w := by
  go_enter Try.func63, Try.ntmps63
  go_wp2_with fail
  go_ret
  exact ⟨by first | rfl | simp_all, rfl⟩

set_option maxRecDepth 20000 in
set_option maxHeartbeats 400000 in
theorem ct_flt_none (a : Nat) (w : World)  :
    Calls Try.prog 63 #[.iface 92 (.float .f64 a), .nilIface] w fun e w' => e = .returned (.int .i64 (3)) ∧ w' = w := by
  go_enter Try.func63, Try.ntmps63
  go_wp2_with fail
  go_ret
  exact ⟨by first | rfl | simp_all, rfl⟩
end Go.Proofs.Ytkipmogmejfmcaa
