/-
  OWN WORK. The contracts of Unary, the program's.
-/
import Derived.Test.YtkipmogmejfmcaaTruth
import Derived.Test.YtkipmogmejfmcaaSlot
import Derived.Test.YtkipmogmejfmcaaAssert
namespace Go.Proofs.Ytkipmogmejfmcaa
open Go.RowKit
attribute [local go_sem] run_store_float
attribute [local go_sem] run_neg_float
attribute [local go_sem] ta_nil_str ta_bool_str ta_int_str ta_flt_str ta_str_str ta_builtin_str ta_ref_str ta_none_str ta_nil_int ta_bool_int ta_int_int ta_flt_int ta_str_int ta_builtin_int ta_ref_int ta_none_int ta_nil_flt ta_bool_flt ta_int_flt ta_flt_flt ta_str_flt ta_builtin_flt ta_ref_flt ta_none_flt ta_nil_nil ta_bool_nil ta_int_nil ta_flt_nil ta_str_nil ta_builtin_nil ta_ref_nil ta_none_nil
attribute [local go_sem] m_nil_truth m_bool_truth m_int_truth m_flt_truth m_str_truth m_builtin_truth m_ref_truth
set_option linter.unusedVariables false

set_option maxRecDepth 20000 in
set_option maxHeartbeats 400000 in
theorem ineg_int (n : Int) (w : World) : Calls Try.prog 73 #[.iface 97 (.int .i64 n)] w fun e w' => e = .returned (RV 0 2 (wrap64 (-n)) 0 ⟨#[]⟩ 0) ∧ Below w.heap.size w w' := by
  go_enter Try.func73, Try.ntmps73
  go_wp2_with fail
  refine (ig_int _ _).mono ?_
  rintro e w101 ⟨rfl, hx⟩
  obtain ⟨hb, sl⟩ := box0s hx
  clear hx
  obtain ⟨v0, v1, v2, v3, v4, v5, d0, d1, d2, d3, d4, d5, z, hz⟩ := sl.cells
  go_wp2_with fail
  exact bodyPost_ret (v := RV 0 2 (wrap64 (-n)) 0 ⟨#[]⟩ 0) (by simp [results, Try.results73, go_sem, d0, d1, d2, d3, d4, d5]) rfl ⟨rfl, below6 hb (by omega) _ _ _ _ _ _⟩

set_option maxRecDepth 20000 in
set_option maxHeartbeats 400000 in
theorem ineg_flt (f : Nat) (w : World) : Calls Try.prog 73 #[.iface 92 (.float .f64 f)] w fun e w' => e = .returned (RV 0 3 0 (Op.negFloat .f64 f) ⟨#[]⟩ 0) ∧ Below w.heap.size w w' := by
  go_enter Try.func73, Try.ntmps73
  go_wp2_with fail
  refine (ig_flt _ _).mono ?_
  rintro e w102 ⟨rfl, hx⟩
  obtain ⟨hb, sl⟩ := box0s hx
  clear hx
  obtain ⟨v0, v1, v2, v3, v4, v5, d0, d1, d2, d3, d4, d5, z, hz⟩ := sl.cells
  go_wp2_with fail
  exact bodyPost_ret (v := RV 0 3 0 (Op.negFloat .f64 f) ⟨#[]⟩ 0) (by simp [results, Try.results73, go_sem, d0, d1, d2, d3, d4, d5]) rfl ⟨rfl, below6 hb (by omega) _ _ _ _ _ _⟩

set_option maxRecDepth 20000 in
set_option maxHeartbeats 400000 in
theorem ineg_none  (w : World) : Calls Try.prog 73 #[.nilIface] w fun e w' => e = .returned (RV 1 0 0 0 ⟨#[]⟩ 0) ∧ Below w.heap.size w w' := by
  go_enter Try.func73, Try.ntmps73
  go_wp2_with fail
  refine (ig_fail _ _).mono ?_
  rintro e w103 ⟨rfl, hx⟩
  obtain ⟨hb, sl⟩ := box0s hx
  clear hx
  obtain ⟨v0, v1, v2, v3, v4, v5, d0, d1, d2, d3, d4, d5, z, hz⟩ := sl.cells
  go_wp2_with fail
  exact bodyPost_ret (v := RV 1 0 0 0 ⟨#[]⟩ 0) (by simp [results, Try.results73, go_sem, d0, d1, d2, d3, d4, d5]) rfl ⟨rfl, below6 hb (by omega) _ _ _ _ _ _⟩

set_option maxRecDepth 20000 in
set_option maxHeartbeats 400000 in
theorem ineg_nil (v : Value) (w : World) : Calls Try.prog 73 #[.iface 91 v] w fun e w' => e = .returned (RV 1 0 0 0 ⟨#[]⟩ 0) ∧ Below w.heap.size w w' := by
  go_enter Try.func73, Try.ntmps73
  go_wp2_with fail
  refine (ig_fail _ _).mono ?_
  rintro e w104 ⟨rfl, hx⟩
  obtain ⟨hb, sl⟩ := box0s hx
  clear hx
  obtain ⟨v0, v1, v2, v3, v4, v5, d0, d1, d2, d3, d4, d5, z, hz⟩ := sl.cells
  go_wp2_with fail
  exact bodyPost_ret (v := RV 1 0 0 0 ⟨#[]⟩ 0) (by simp [results, Try.results73, go_sem, d0, d1, d2, d3, d4, d5]) rfl ⟨rfl, below6 hb (by omega) _ _ _ _ _ _⟩

set_option maxRecDepth 20000 in
set_option maxHeartbeats 400000 in
theorem ineg_bool (v : Value) (w : World) : Calls Try.prog 73 #[.iface 122 v] w fun e w' => e = .returned (RV 1 0 0 0 ⟨#[]⟩ 0) ∧ Below w.heap.size w w' := by
  go_enter Try.func73, Try.ntmps73
  go_wp2_with fail
  refine (ig_fail _ _).mono ?_
  rintro e w105 ⟨rfl, hx⟩
  obtain ⟨hb, sl⟩ := box0s hx
  clear hx
  obtain ⟨v0, v1, v2, v3, v4, v5, d0, d1, d2, d3, d4, d5, z, hz⟩ := sl.cells
  go_wp2_with fail
  exact bodyPost_ret (v := RV 1 0 0 0 ⟨#[]⟩ 0) (by simp [results, Try.results73, go_sem, d0, d1, d2, d3, d4, d5]) rfl ⟨rfl, below6 hb (by omega) _ _ _ _ _ _⟩

set_option maxRecDepth 20000 in
set_option maxHeartbeats 400000 in
theorem ineg_str (v : Value) (w : World) : Calls Try.prog 73 #[.iface 101 v] w fun e w' => e = .returned (RV 1 0 0 0 ⟨#[]⟩ 0) ∧ Below w.heap.size w w' := by
  go_enter Try.func73, Try.ntmps73
  go_wp2_with fail
  refine (ig_fail _ _).mono ?_
  rintro e w106 ⟨rfl, hx⟩
  obtain ⟨hb, sl⟩ := box0s hx
  clear hx
  obtain ⟨v0, v1, v2, v3, v4, v5, d0, d1, d2, d3, d4, d5, z, hz⟩ := sl.cells
  go_wp2_with fail
  exact bodyPost_ret (v := RV 1 0 0 0 ⟨#[]⟩ 0) (by simp [results, Try.results73, go_sem, d0, d1, d2, d3, d4, d5]) rfl ⟨rfl, below6 hb (by omega) _ _ _ _ _ _⟩

set_option maxRecDepth 20000 in
set_option maxHeartbeats 400000 in
theorem ineg_builtin (v : Value) (w : World) : Calls Try.prog 73 #[.iface 125 v] w fun e w' => e = .returned (RV 1 0 0 0 ⟨#[]⟩ 0) ∧ Below w.heap.size w w' := by
  go_enter Try.func73, Try.ntmps73
  go_wp2_with fail
  refine (ig_fail _ _).mono ?_
  rintro e w107 ⟨rfl, hx⟩
  obtain ⟨hb, sl⟩ := box0s hx
  clear hx
  obtain ⟨v0, v1, v2, v3, v4, v5, d0, d1, d2, d3, d4, d5, z, hz⟩ := sl.cells
  go_wp2_with fail
  exact bodyPost_ret (v := RV 1 0 0 0 ⟨#[]⟩ 0) (by simp [results, Try.results73, go_sem, d0, d1, d2, d3, d4, d5]) rfl ⟨rfl, below6 hb (by omega) _ _ _ _ _ _⟩

set_option maxRecDepth 20000 in
set_option maxHeartbeats 400000 in
theorem ineg_ref (v : Value) (w : World) : Calls Try.prog 73 #[.iface 124 v] w fun e w' => e = .returned (RV 1 0 0 0 ⟨#[]⟩ 0) ∧ Below w.heap.size w w' := by
  go_enter Try.func73, Try.ntmps73
  go_wp2_with fail
  refine (ig_fail _ _).mono ?_
  rintro e w108 ⟨rfl, hx⟩
  obtain ⟨hb, sl⟩ := box0s hx
  clear hx
  obtain ⟨v0, v1, v2, v3, v4, v5, d0, d1, d2, d3, d4, d5, z, hz⟩ := sl.cells
  go_wp2_with fail
  exact bodyPost_ret (v := RV 1 0 0 0 ⟨#[]⟩ 0) (by simp [results, Try.results73, go_sem, d0, d1, d2, d3, d4, d5]) rfl ⟨rfl, below6 hb (by omega) _ _ _ _ _ _⟩
end Go.Proofs.Ytkipmogmejfmcaa
