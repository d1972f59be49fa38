/-
  OWN WORK. The contracts of Unary, the program's: IUnB.
-/
import Derived.Test.YtkipmogmejfmcaaTruth
import Derived.Test.YtkipmogmejfmcaaSlot
import Derived.Test.YtkipmogmejfmcaaAssert
import Derived.Test.YtkipmogmejfmcaaINeg
namespace Go.Proofs.Ytkipmogmejfmcaa
open Go.RowKit
attribute [local go_sem] run_store_float
attribute [local go_sem] run_neg_float
attribute [local go_sem] ta_nil_str ta_bool_str ta_int_str ta_flt_str ta_str_str ta_builtin_str ta_ref_str ta_none_str ta_nil_int ta_bool_int ta_int_int ta_flt_int ta_str_int ta_builtin_int ta_ref_int ta_none_int ta_nil_flt ta_bool_flt ta_int_flt ta_flt_flt ta_str_flt ta_builtin_flt ta_ref_flt ta_none_flt ta_nil_nil ta_bool_nil ta_int_nil ta_flt_nil ta_str_nil ta_builtin_nil ta_ref_nil ta_none_nil
attribute [local go_sem] m_nil_truth m_bool_truth m_int_truth m_flt_truth m_str_truth m_builtin_truth m_ref_truth
set_option linter.unusedVariables false

set_option maxRecDepth 20000 in
set_option maxHeartbeats 400000 in
theorem iun20_0 (n : Int) (f : Nat) (s : ByteArray) (r : Int) (w : World) (hv : vok 0 n f s r = true) :
    Calls Try.prog 34 #[.int .i64 20, VV 0 n f s r] w fun e w' => e = .returned (RV 1 0 0 0 ⟨#[]⟩ 0) ∧ Below w.heap.size w w' := by
  have ht := tm0 hv
  go_enter Try.func34, Try.ntmps34
  go_wp2_with fail
  refine (term_any _ _ _ _ _ _).mono ?_
  rintro e w101 ⟨rfl, hx⟩
  obtain ⟨hb, sl, c0, c1, c2, c3, c4⟩ := box5s hx
  clear hx
  clear c0 c1 c2 c3 c4
  go_wp2_with fail
  refine (ig_fail _ _).mono ?_
  rintro e w102 ⟨rfl, hx⟩
  replace hb := hb.trans (hx.mono hb.size)
  replace sl := Slot.later hx sl
  clear hx
  obtain ⟨v0, v1, v2, v3, v4, v5, d0, d1, d2, d3, d4, d5, z, hz⟩ := sl.cells
  go_wp2_with fail
  exact bodyPost_ret (v := RV 1 0 0 0 ⟨#[]⟩ 0) (by simp [results, Try.results34, go_sem, d0, d1, d2, d3, d4, d5]) rfl ⟨rfl, below6 hb (by omega) _ _ _ _ _ _⟩

set_option maxRecDepth 20000 in
set_option maxHeartbeats 400000 in
theorem iun20_1 (n : Int) (f : Nat) (s : ByteArray) (r : Int) (w : World) (hv : vok 1 n f s r = true) :
    Calls Try.prog 34 #[.int .i64 20, VV 1 n f s r] w fun e w' => e = .returned (RV 1 0 0 0 ⟨#[]⟩ 0) ∧ Below w.heap.size w w' := by
  have ht := tm1 hv
  go_enter Try.func34, Try.ntmps34
  go_wp2_with fail
  refine (term_any _ _ _ _ _ _).mono ?_
  rintro e w103 ⟨rfl, hx⟩
  obtain ⟨hb, sl, c0, c1, c2, c3, c4⟩ := box5s hx
  clear hx
  clear c0 c1 c2 c3 c4
  go_wp2_with fail
  refine (ig_fail _ _).mono ?_
  rintro e w104 ⟨rfl, hx⟩
  replace hb := hb.trans (hx.mono hb.size)
  replace sl := Slot.later hx sl
  clear hx
  obtain ⟨v0, v1, v2, v3, v4, v5, d0, d1, d2, d3, d4, d5, z, hz⟩ := sl.cells
  go_wp2_with fail
  exact bodyPost_ret (v := RV 1 0 0 0 ⟨#[]⟩ 0) (by simp [results, Try.results34, go_sem, d0, d1, d2, d3, d4, d5]) rfl ⟨rfl, below6 hb (by omega) _ _ _ _ _ _⟩

set_option maxRecDepth 20000 in
set_option maxHeartbeats 400000 in
theorem iun20_2 (n : Int) (f : Nat) (s : ByteArray) (r : Int) (w : World) (hv : vok 2 n f s r = true) :
    Calls Try.prog 34 #[.int .i64 20, VV 2 n f s r] w fun e w' => e = .returned (RV 0 2 (bits .xor .i64 (-1) n) 0 ⟨#[]⟩ 0) ∧ Below w.heap.size w w' := by
  have ht := tm2 hv
  go_enter Try.func34, Try.ntmps34
  go_wp2_with fail
  refine (term_any _ _ _ _ _ _).mono ?_
  rintro e w105 ⟨rfl, hx⟩
  obtain ⟨hb, sl, c0, c1, c2, c3, c4⟩ := box5s hx
  clear hx
  clear c0 c1 c2 c3 c4
  go_wp2_with fail
  refine (ig_int _ _).mono ?_
  rintro e w106 ⟨rfl, hx⟩
  replace hb := hb.trans (hx.mono hb.size)
  replace sl := Slot.later hx sl
  clear hx
  obtain ⟨v0, v1, v2, v3, v4, v5, d0, d1, d2, d3, d4, d5, z, hz⟩ := sl.cells
  go_wp2_with fail
  exact bodyPost_ret (v := RV 0 2 (bits .xor .i64 (-1) n) 0 ⟨#[]⟩ 0) (by simp [results, Try.results34, go_sem, d0, d1, d2, d3, d4, d5]) rfl ⟨rfl, below6 hb (by omega) _ _ _ _ _ _⟩

set_option maxRecDepth 20000 in
set_option maxHeartbeats 400000 in
theorem iun20_3 (n : Int) (f : Nat) (s : ByteArray) (r : Int) (w : World) (hv : vok 3 n f s r = true) :
    Calls Try.prog 34 #[.int .i64 20, VV 3 n f s r] w fun e w' => e = .returned (RV 1 0 0 0 ⟨#[]⟩ 0) ∧ Below w.heap.size w w' := by
  have ht := tm3 hv
  go_enter Try.func34, Try.ntmps34
  go_wp2_with fail
  refine (term_any _ _ _ _ _ _).mono ?_
  rintro e w107 ⟨rfl, hx⟩
  obtain ⟨hb, sl, c0, c1, c2, c3, c4⟩ := box5s hx
  clear hx
  clear c0 c1 c2 c3 c4
  go_wp2_with fail
  refine (ig_fail _ _).mono ?_
  rintro e w108 ⟨rfl, hx⟩
  replace hb := hb.trans (hx.mono hb.size)
  replace sl := Slot.later hx sl
  clear hx
  obtain ⟨v0, v1, v2, v3, v4, v5, d0, d1, d2, d3, d4, d5, z, hz⟩ := sl.cells
  go_wp2_with fail
  exact bodyPost_ret (v := RV 1 0 0 0 ⟨#[]⟩ 0) (by simp [results, Try.results34, go_sem, d0, d1, d2, d3, d4, d5]) rfl ⟨rfl, below6 hb (by omega) _ _ _ _ _ _⟩

set_option maxRecDepth 20000 in
set_option maxHeartbeats 400000 in
theorem iun20_4 (n : Int) (f : Nat) (s : ByteArray) (r : Int) (w : World) (hv : vok 4 n f s r = true) :
    Calls Try.prog 34 #[.int .i64 20, VV 4 n f s r] w fun e w' => e = .returned (RV 1 0 0 0 ⟨#[]⟩ 0) ∧ Below w.heap.size w w' := by
  have ht := tm4 hv
  go_enter Try.func34, Try.ntmps34
  go_wp2_with fail
  refine (term_any _ _ _ _ _ _).mono ?_
  rintro e w109 ⟨rfl, hx⟩
  obtain ⟨hb, sl, c0, c1, c2, c3, c4⟩ := box5s hx
  clear hx
  clear c0 c1 c2 c3 c4
  go_wp2_with fail
  refine (ig_fail _ _).mono ?_
  rintro e w110 ⟨rfl, hx⟩
  replace hb := hb.trans (hx.mono hb.size)
  replace sl := Slot.later hx sl
  clear hx
  obtain ⟨v0, v1, v2, v3, v4, v5, d0, d1, d2, d3, d4, d5, z, hz⟩ := sl.cells
  go_wp2_with fail
  exact bodyPost_ret (v := RV 1 0 0 0 ⟨#[]⟩ 0) (by simp [results, Try.results34, go_sem, d0, d1, d2, d3, d4, d5]) rfl ⟨rfl, below6 hb (by omega) _ _ _ _ _ _⟩

set_option maxRecDepth 20000 in
set_option maxHeartbeats 400000 in
theorem iun20_5 (n : Int) (f : Nat) (s : ByteArray) (r : Int) (w : World) (hv : vok 5 n f s r = true) :
    Calls Try.prog 34 #[.int .i64 20, VV 5 n f s r] w fun e w' => e = .returned (RV 1 0 0 0 ⟨#[]⟩ 0) ∧ Below w.heap.size w w' := by
  have ht := tm5 hv
  go_enter Try.func34, Try.ntmps34
  go_wp2_with fail
  refine (term_any _ _ _ _ _ _).mono ?_
  rintro e w111 ⟨rfl, hx⟩
  obtain ⟨hb, sl, c0, c1, c2, c3, c4⟩ := box5s hx
  clear hx
  clear c0 c1 c2 c3 c4
  go_wp2_with fail
  refine (ig_fail _ _).mono ?_
  rintro e w112 ⟨rfl, hx⟩
  replace hb := hb.trans (hx.mono hb.size)
  replace sl := Slot.later hx sl
  clear hx
  obtain ⟨v0, v1, v2, v3, v4, v5, d0, d1, d2, d3, d4, d5, z, hz⟩ := sl.cells
  go_wp2_with fail
  exact bodyPost_ret (v := RV 1 0 0 0 ⟨#[]⟩ 0) (by simp [results, Try.results34, go_sem, d0, d1, d2, d3, d4, d5]) rfl ⟨rfl, below6 hb (by omega) _ _ _ _ _ _⟩

set_option maxRecDepth 20000 in
set_option maxHeartbeats 400000 in
theorem iun20_6 (n : Int) (f : Nat) (s : ByteArray) (r : Int) (w : World) (hv : vok 6 n f s r = true) :
    Calls Try.prog 34 #[.int .i64 20, VV 6 n f s r] w fun e w' => e = .returned (RV 1 0 0 0 ⟨#[]⟩ 0) ∧ Below w.heap.size w w' := by
  have ht := tm6 hv
  go_enter Try.func34, Try.ntmps34
  go_wp2_with fail
  refine (term_any _ _ _ _ _ _).mono ?_
  rintro e w113 ⟨rfl, hx⟩
  obtain ⟨hb, sl, c0, c1, c2, c3, c4⟩ := box5s hx
  clear hx
  clear c0 c1 c2 c3 c4
  go_wp2_with fail
  refine (ig_fail _ _).mono ?_
  rintro e w114 ⟨rfl, hx⟩
  replace hb := hb.trans (hx.mono hb.size)
  replace sl := Slot.later hx sl
  clear hx
  obtain ⟨v0, v1, v2, v3, v4, v5, d0, d1, d2, d3, d4, d5, z, hz⟩ := sl.cells
  go_wp2_with fail
  exact bodyPost_ret (v := RV 1 0 0 0 ⟨#[]⟩ 0) (by simp [results, Try.results34, go_sem, d0, d1, d2, d3, d4, d5]) rfl ⟨rfl, below6 hb (by omega) _ _ _ _ _ _⟩

set_option maxRecDepth 20000 in
set_option maxHeartbeats 400000 in
theorem iun20_7 (n : Int) (f : Nat) (s : ByteArray) (r : Int) (w : World) (hv : vok 7 n f s r = true) :
    Calls Try.prog 34 #[.int .i64 20, VV 7 n f s r] w fun e w' => e = .returned (RV 1 0 0 0 ⟨#[]⟩ 0) ∧ Below w.heap.size w w' := by
  have ht := tm7 hv
  go_enter Try.func34, Try.ntmps34
  go_wp2_with fail
  refine (term_any _ _ _ _ _ _).mono ?_
  rintro e w115 ⟨rfl, hx⟩
  obtain ⟨hb, sl, c0, c1, c2, c3, c4⟩ := box5s hx
  clear hx
  clear c0 c1 c2 c3 c4
  go_wp2_with fail
  refine (ig_fail _ _).mono ?_
  rintro e w116 ⟨rfl, hx⟩
  replace hb := hb.trans (hx.mono hb.size)
  replace sl := Slot.later hx sl
  clear hx
  obtain ⟨v0, v1, v2, v3, v4, v5, d0, d1, d2, d3, d4, d5, z, hz⟩ := sl.cells
  go_wp2_with fail
  exact bodyPost_ret (v := RV 1 0 0 0 ⟨#[]⟩ 0) (by simp [results, Try.results34, go_sem, d0, d1, d2, d3, d4, d5]) rfl ⟨rfl, below6 hb (by omega) _ _ _ _ _ _⟩

set_option maxRecDepth 20000 in
set_option maxHeartbeats 400000 in
theorem iun20_8 (n : Int) (f : Nat) (s : ByteArray) (r : Int) (w : World) (hv : vok 8 n f s r = true) :
    Calls Try.prog 34 #[.int .i64 20, VV 8 n f s r] w fun e w' => e = .returned (RV 1 0 0 0 ⟨#[]⟩ 0) ∧ Below w.heap.size w w' := by
  have ht := tm8 hv
  go_enter Try.func34, Try.ntmps34
  go_wp2_with fail
  refine (term_any _ _ _ _ _ _).mono ?_
  rintro e w117 ⟨rfl, hx⟩
  obtain ⟨hb, sl, c0, c1, c2, c3, c4⟩ := box5s hx
  clear hx
  clear c0 c1 c2 c3 c4
  go_wp2_with fail
  refine (ig_fail _ _).mono ?_
  rintro e w118 ⟨rfl, hx⟩
  replace hb := hb.trans (hx.mono hb.size)
  replace sl := Slot.later hx sl
  clear hx
  obtain ⟨v0, v1, v2, v3, v4, v5, d0, d1, d2, d3, d4, d5, z, hz⟩ := sl.cells
  go_wp2_with fail
  exact bodyPost_ret (v := RV 1 0 0 0 ⟨#[]⟩ 0) (by simp [results, Try.results34, go_sem, d0, d1, d2, d3, d4, d5]) rfl ⟨rfl, below6 hb (by omega) _ _ _ _ _ _⟩

set_option maxRecDepth 20000 in
set_option maxHeartbeats 400000 in
theorem iun22_0 (n : Int) (f : Nat) (s : ByteArray) (r : Int) (w : World) (hv : vok 0 n f s r = true) :
    Calls Try.prog 34 #[.int .i64 22, VV 0 n f s r] w fun e w' => e = .returned (RV 1 0 0 0 ⟨#[]⟩ 0) ∧ Below w.heap.size w w' := by
  have ht := tm0 hv
  go_enter Try.func34, Try.ntmps34
  go_wp2_with fail
  refine (term_any _ _ _ _ _ _).mono ?_
  rintro e w119 ⟨rfl, hx⟩
  obtain ⟨hb, sl, c0, c1, c2, c3, c4⟩ := box5s hx
  clear hx
  clear c0 c1 c2 c3 c4
  go_wp2_with fail
  refine (ig_fail _ _).mono ?_
  rintro e w120 ⟨rfl, hx⟩
  replace hb := hb.trans (hx.mono hb.size)
  replace sl := Slot.later hx sl
  clear hx
  obtain ⟨v0, v1, v2, v3, v4, v5, d0, d1, d2, d3, d4, d5, z, hz⟩ := sl.cells
  go_wp2_with fail
  exact bodyPost_ret (v := RV 1 0 0 0 ⟨#[]⟩ 0) (by simp [results, Try.results34, go_sem, d0, d1, d2, d3, d4, d5]) rfl ⟨rfl, below6 hb (by omega) _ _ _ _ _ _⟩

set_option maxRecDepth 20000 in
set_option maxHeartbeats 400000 in
theorem iun22_1 (n : Int) (f : Nat) (s : ByteArray) (r : Int) (w : World) (hv : vok 1 n f s r = true) :
    Calls Try.prog 34 #[.int .i64 22, VV 1 n f s r] w fun e w' => e = .returned (RV 1 0 0 0 ⟨#[]⟩ 0) ∧ Below w.heap.size w w' := by
  have ht := tm1 hv
  go_enter Try.func34, Try.ntmps34
  go_wp2_with fail
  refine (term_any _ _ _ _ _ _).mono ?_
  rintro e w121 ⟨rfl, hx⟩
  obtain ⟨hb, sl, c0, c1, c2, c3, c4⟩ := box5s hx
  clear hx
  clear c0 c1 c2 c3 c4
  go_wp2_with fail
  refine (ig_fail _ _).mono ?_
  rintro e w122 ⟨rfl, hx⟩
  replace hb := hb.trans (hx.mono hb.size)
  replace sl := Slot.later hx sl
  clear hx
  obtain ⟨v0, v1, v2, v3, v4, v5, d0, d1, d2, d3, d4, d5, z, hz⟩ := sl.cells
  go_wp2_with fail
  exact bodyPost_ret (v := RV 1 0 0 0 ⟨#[]⟩ 0) (by simp [results, Try.results34, go_sem, d0, d1, d2, d3, d4, d5]) rfl ⟨rfl, below6 hb (by omega) _ _ _ _ _ _⟩

set_option maxRecDepth 20000 in
set_option maxHeartbeats 400000 in
theorem iun22_2 (n : Int) (f : Nat) (s : ByteArray) (r : Int) (w : World) (hv : vok 2 n f s r = true) :
    Calls Try.prog 34 #[.int .i64 22, VV 2 n f s r] w fun e w' => e = .returned (RV 1 0 0 0 ⟨#[]⟩ 0) ∧ Below w.heap.size w w' := by
  have ht := tm2 hv
  go_enter Try.func34, Try.ntmps34
  go_wp2_with fail
  refine (term_any _ _ _ _ _ _).mono ?_
  rintro e w123 ⟨rfl, hx⟩
  obtain ⟨hb, sl, c0, c1, c2, c3, c4⟩ := box5s hx
  clear hx
  clear c0 c1 c2 c3 c4
  go_wp2_with fail
  refine (ig_fail _ _).mono ?_
  rintro e w124 ⟨rfl, hx⟩
  replace hb := hb.trans (hx.mono hb.size)
  replace sl := Slot.later hx sl
  clear hx
  obtain ⟨v0, v1, v2, v3, v4, v5, d0, d1, d2, d3, d4, d5, z, hz⟩ := sl.cells
  go_wp2_with fail
  exact bodyPost_ret (v := RV 1 0 0 0 ⟨#[]⟩ 0) (by simp [results, Try.results34, go_sem, d0, d1, d2, d3, d4, d5]) rfl ⟨rfl, below6 hb (by omega) _ _ _ _ _ _⟩

set_option maxRecDepth 20000 in
set_option maxHeartbeats 400000 in
theorem iun22_3 (n : Int) (f : Nat) (s : ByteArray) (r : Int) (w : World) (hv : vok 3 n f s r = true) :
    Calls Try.prog 34 #[.int .i64 22, VV 3 n f s r] w fun e w' => e = .returned (RV 1 0 0 0 ⟨#[]⟩ 0) ∧ Below w.heap.size w w' := by
  have ht := tm3 hv
  go_enter Try.func34, Try.ntmps34
  go_wp2_with fail
  refine (term_any _ _ _ _ _ _).mono ?_
  rintro e w125 ⟨rfl, hx⟩
  obtain ⟨hb, sl, c0, c1, c2, c3, c4⟩ := box5s hx
  clear hx
  clear c0 c1 c2 c3 c4
  go_wp2_with fail
  refine (ig_fail _ _).mono ?_
  rintro e w126 ⟨rfl, hx⟩
  replace hb := hb.trans (hx.mono hb.size)
  replace sl := Slot.later hx sl
  clear hx
  obtain ⟨v0, v1, v2, v3, v4, v5, d0, d1, d2, d3, d4, d5, z, hz⟩ := sl.cells
  go_wp2_with fail
  exact bodyPost_ret (v := RV 1 0 0 0 ⟨#[]⟩ 0) (by simp [results, Try.results34, go_sem, d0, d1, d2, d3, d4, d5]) rfl ⟨rfl, below6 hb (by omega) _ _ _ _ _ _⟩

set_option maxRecDepth 20000 in
set_option maxHeartbeats 400000 in
theorem iun22_4 (n : Int) (f : Nat) (s : ByteArray) (r : Int) (w : World) (hv : vok 4 n f s r = true) :
    Calls Try.prog 34 #[.int .i64 22, VV 4 n f s r] w fun e w' => e = .returned (RV 0 2 s.size 0 ⟨#[]⟩ 0) ∧ Below w.heap.size w w' := by
  have ht := tm4 hv
  go_enter Try.func34, Try.ntmps34
  go_wp2_with fail
  refine (term_any _ _ _ _ _ _).mono ?_
  rintro e w127 ⟨rfl, hx⟩
  obtain ⟨hb, sl, c0, c1, c2, c3, c4⟩ := box5s hx
  clear hx
  clear c0 c1 c2 c3 c4
  go_wp2_with fail
  refine (ig_int _ _).mono ?_
  rintro e w128 ⟨rfl, hx⟩
  replace hb := hb.trans (hx.mono hb.size)
  replace sl := Slot.later hx sl
  clear hx
  obtain ⟨v0, v1, v2, v3, v4, v5, d0, d1, d2, d3, d4, d5, z, hz⟩ := sl.cells
  go_wp2_with fail
  exact bodyPost_ret (v := RV 0 2 s.size 0 ⟨#[]⟩ 0) (by simp [results, Try.results34, go_sem, d0, d1, d2, d3, d4, d5]) rfl ⟨rfl, below6 hb (by omega) _ _ _ _ _ _⟩

set_option maxRecDepth 20000 in
set_option maxHeartbeats 400000 in
theorem iun22_5 (n : Int) (f : Nat) (s : ByteArray) (r : Int) (w : World) (hv : vok 5 n f s r = true) :
    Calls Try.prog 34 #[.int .i64 22, VV 5 n f s r] w fun e w' => e = .returned (RV 1 0 0 0 ⟨#[]⟩ 0) ∧ Below w.heap.size w w' := by
  have ht := tm5 hv
  go_enter Try.func34, Try.ntmps34
  go_wp2_with fail
  refine (term_any _ _ _ _ _ _).mono ?_
  rintro e w129 ⟨rfl, hx⟩
  obtain ⟨hb, sl, c0, c1, c2, c3, c4⟩ := box5s hx
  clear hx
  clear c0 c1 c2 c3 c4
  go_wp2_with fail
  refine (ig_fail _ _).mono ?_
  rintro e w130 ⟨rfl, hx⟩
  replace hb := hb.trans (hx.mono hb.size)
  replace sl := Slot.later hx sl
  clear hx
  obtain ⟨v0, v1, v2, v3, v4, v5, d0, d1, d2, d3, d4, d5, z, hz⟩ := sl.cells
  go_wp2_with fail
  exact bodyPost_ret (v := RV 1 0 0 0 ⟨#[]⟩ 0) (by simp [results, Try.results34, go_sem, d0, d1, d2, d3, d4, d5]) rfl ⟨rfl, below6 hb (by omega) _ _ _ _ _ _⟩

set_option maxRecDepth 20000 in
set_option maxHeartbeats 400000 in
theorem iun22_6 (n : Int) (f : Nat) (s : ByteArray) (r : Int) (w : World) (hv : vok 6 n f s r = true) :
    Calls Try.prog 34 #[.int .i64 22, VV 6 n f s r] w fun e w' => e = .returned (RV 1 0 0 0 ⟨#[]⟩ 0) ∧ Below w.heap.size w w' := by
  have ht := tm6 hv
  go_enter Try.func34, Try.ntmps34
  go_wp2_with fail
  refine (term_any _ _ _ _ _ _).mono ?_
  rintro e w131 ⟨rfl, hx⟩
  obtain ⟨hb, sl, c0, c1, c2, c3, c4⟩ := box5s hx
  clear hx
  clear c0 c1 c2 c3 c4
  go_wp2_with fail
  refine (ig_fail _ _).mono ?_
  rintro e w132 ⟨rfl, hx⟩
  replace hb := hb.trans (hx.mono hb.size)
  replace sl := Slot.later hx sl
  clear hx
  obtain ⟨v0, v1, v2, v3, v4, v5, d0, d1, d2, d3, d4, d5, z, hz⟩ := sl.cells
  go_wp2_with fail
  exact bodyPost_ret (v := RV 1 0 0 0 ⟨#[]⟩ 0) (by simp [results, Try.results34, go_sem, d0, d1, d2, d3, d4, d5]) rfl ⟨rfl, below6 hb (by omega) _ _ _ _ _ _⟩

set_option maxRecDepth 20000 in
set_option maxHeartbeats 400000 in
theorem iun22_7 (n : Int) (f : Nat) (s : ByteArray) (r : Int) (w : World) (hv : vok 7 n f s r = true) :
    Calls Try.prog 34 #[.int .i64 22, VV 7 n f s r] w fun e w' => e = .returned (RV 1 0 0 0 ⟨#[]⟩ 0) ∧ Below w.heap.size w w' := by
  have ht := tm7 hv
  go_enter Try.func34, Try.ntmps34
  go_wp2_with fail
  refine (term_any _ _ _ _ _ _).mono ?_
  rintro e w133 ⟨rfl, hx⟩
  obtain ⟨hb, sl, c0, c1, c2, c3, c4⟩ := box5s hx
  clear hx
  clear c0 c1 c2 c3 c4
  go_wp2_with fail
  refine (ig_fail _ _).mono ?_
  rintro e w134 ⟨rfl, hx⟩
  replace hb := hb.trans (hx.mono hb.size)
  replace sl := Slot.later hx sl
  clear hx
  obtain ⟨v0, v1, v2, v3, v4, v5, d0, d1, d2, d3, d4, d5, z, hz⟩ := sl.cells
  go_wp2_with fail
  exact bodyPost_ret (v := RV 1 0 0 0 ⟨#[]⟩ 0) (by simp [results, Try.results34, go_sem, d0, d1, d2, d3, d4, d5]) rfl ⟨rfl, below6 hb (by omega) _ _ _ _ _ _⟩

set_option maxRecDepth 20000 in
set_option maxHeartbeats 400000 in
theorem iun22_8 (n : Int) (f : Nat) (s : ByteArray) (r : Int) (w : World) (hv : vok 8 n f s r = true) :
    Calls Try.prog 34 #[.int .i64 22, VV 8 n f s r] w fun e w' => e = .returned (RV 1 0 0 0 ⟨#[]⟩ 0) ∧ Below w.heap.size w w' := by
  have ht := tm8 hv
  go_enter Try.func34, Try.ntmps34
  go_wp2_with fail
  refine (term_any _ _ _ _ _ _).mono ?_
  rintro e w135 ⟨rfl, hx⟩
  obtain ⟨hb, sl, c0, c1, c2, c3, c4⟩ := box5s hx
  clear hx
  clear c0 c1 c2 c3 c4
  go_wp2_with fail
  refine (ig_fail _ _).mono ?_
  rintro e w136 ⟨rfl, hx⟩
  replace hb := hb.trans (hx.mono hb.size)
  replace sl := Slot.later hx sl
  clear hx
  obtain ⟨v0, v1, v2, v3, v4, v5, d0, d1, d2, d3, d4, d5, z, hz⟩ := sl.cells
  go_wp2_with fail
  exact bodyPost_ret (v := RV 1 0 0 0 ⟨#[]⟩ 0) (by simp [results, Try.results34, go_sem, d0, d1, d2, d3, d4, d5]) rfl ⟨rfl, below6 hb (by omega) _ _ _ _ _ _⟩
end Go.Proofs.Ytkipmogmejfmcaa
