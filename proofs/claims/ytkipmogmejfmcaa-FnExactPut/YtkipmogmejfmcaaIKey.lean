/-
  OWN WORK. The contracts of Key: the program's.
-/
import Derived.Test.YtkipmogmejfmcaaTruth
import Derived.Test.YtkipmogmejfmcaaSlot
import Derived.Test.YtkipmogmejfmcaaAssert
import Derived.Test.YtkipmogmejfmcaaFloor
namespace Go.Proofs.Ytkipmogmejfmcaa
open Go.RowKit
attribute [local go_sem] run_store_float
attribute [local go_sem] ta_nil_str ta_bool_str ta_int_str ta_flt_str ta_str_str ta_builtin_str ta_ref_str ta_none_str ta_nil_int ta_bool_int ta_int_int ta_flt_int ta_str_int ta_builtin_int ta_ref_int ta_none_int ta_nil_flt ta_bool_flt ta_int_flt ta_flt_flt ta_str_flt ta_builtin_flt ta_ref_flt ta_none_flt ta_nil_nil ta_bool_nil ta_int_nil ta_flt_nil ta_str_nil ta_builtin_nil ta_ref_nil ta_none_nil
set_option linter.unusedVariables false

set_option maxRecDepth 20000 in
set_option maxHeartbeats 400000 in
theorem isnan_any (x : Nat) (w : World) : Calls Try.prog 101 #[.float .f64 x] w fun e w' => e = .returned (.bool (FloatKind.f64.format.order x x != some .eq)) ∧ w' = w := by
  go_enter Try.func101, Try.ntmps101
  go_wp2
  go_ret
  exact ⟨rfl, rfl⟩

set_option maxRecDepth 20000 in
set_option maxHeartbeats 400000 in
theorem ifk_nan (k n : Int) (f : Nat) (s : ByteArray) (r : Int) (w : World) (h1 : FloatKind.f64.format.order f f = none) :
    Calls Try.prog 70 #[VV k n f s r, .float .f64 f] w fun e w' => e = .returned (RV 5 0 0 0 ⟨#[]⟩ 0) ∧ Below w.heap.size w w' := by
  go_enter Try.func70, Try.ntmps70
  go_wp2_with fail
  refine (isnan_any _ _).mono ?_
  rintro e wq0 ⟨rfl, rfl⟩
  go_wp2_with fail
  refine (ig_fail _ _).mono ?_
  rintro e w101 ⟨rfl, hx⟩
  obtain ⟨hb, sl, c0, c1, c2, c3, c4⟩ := box5s hx
  clear hx
  obtain ⟨v0, v1, v2, v3, v4, v5, d0, d1, d2, d3, d4, d5, z, hz⟩ := sl.cells
  go_wp2_with fail
  exact bodyPost_ret (v := RV 5 0 0 0 ⟨#[]⟩ 0) (by simp [results, Try.results70, go_sem, d0, d1, d2, d3, d4, d5]) rfl ⟨rfl, below6 hb (by omega) _ _ _ _ _ _⟩

set_option maxRecDepth 20000 in
set_option maxHeartbeats 400000 in
theorem ifk_lt (k n : Int) (f : Nat) (s : ByteArray) (r : Int) (w : World) (h1 : FloatKind.f64.format.order f f = some .eq) (h4 : FloatKind.f64.format.order f 14114281232179134464 = some .lt) :
    Calls Try.prog 70 #[VV k n f s r, .float .f64 f] w fun e w' => e = .returned (RV 0 k n f s r) ∧ Below w.heap.size w w' := by
  go_enter Try.func70, Try.ntmps70
  go_wp2_with fail
  refine (isnan_any _ _).mono ?_
  rintro e wq0 ⟨rfl, rfl⟩
  go_wp2_with fail
  exact bodyPost_ret (v := RV 0 k n f s r) (by simp [results, Try.results70, go_sem]) rfl ⟨rfl, bw2 _ _ _⟩

set_option maxRecDepth 20000 in
set_option maxHeartbeats 400000 in
theorem ifk_eq_eq (k n : Int) (f : Nat) (s : ByteArray) (r : Int) (w : World) (h1 : FloatKind.f64.format.order f f = some .eq) (h4 : FloatKind.f64.format.order f 14114281232179134464 = some .eq) (h3 : FloatKind.f64.format.order f 4890909195324358656 = some .eq) :
    Calls Try.prog 70 #[VV k n f s r, .float .f64 f] w fun e w' => e = .returned (RV 0 k n f s r) ∧ Below w.heap.size w w' := by
  go_enter Try.func70, Try.ntmps70
  go_wp2_with fail
  refine (isnan_any _ _).mono ?_
  rintro e wq0 ⟨rfl, rfl⟩
  go_wp2_with fail
  exact bodyPost_ret (v := RV 0 k n f s r) (by simp [results, Try.results70, go_sem]) rfl ⟨rfl, bw2 _ _ _⟩

set_option maxRecDepth 20000 in
set_option maxHeartbeats 400000 in
theorem ifk_eq_gt (k n : Int) (f : Nat) (s : ByteArray) (r : Int) (w : World) (h1 : FloatKind.f64.format.order f f = some .eq) (h4 : FloatKind.f64.format.order f 14114281232179134464 = some .eq) (h3 : FloatKind.f64.format.order f 4890909195324358656 = some .gt) :
    Calls Try.prog 70 #[VV k n f s r, .float .f64 f] w fun e w' => e = .returned (RV 0 k n f s r) ∧ Below w.heap.size w w' := by
  go_enter Try.func70, Try.ntmps70
  go_wp2_with fail
  refine (isnan_any _ _).mono ?_
  rintro e wq0 ⟨rfl, rfl⟩
  go_wp2_with fail
  exact bodyPost_ret (v := RV 0 k n f s r) (by simp [results, Try.results70, go_sem]) rfl ⟨rfl, bw2 _ _ _⟩

set_option maxRecDepth 20000 in
set_option maxHeartbeats 400000 in
theorem ifk_eq_lt_ne (k n : Int) (f : Nat) (s : ByteArray) (r : Int) (w : World) (h1 : FloatKind.f64.format.order f f = some .eq) (h4 : FloatKind.f64.format.order f 14114281232179134464 = some .eq) (h3 : FloatKind.f64.format.order f 4890909195324358656 = some .lt) (h5 : (FloatKind.f64.format.order f (Fl.flr f) == some .eq) = false) :
    Calls Try.prog 70 #[VV k n f s r, .float .f64 f] w fun e w' => e = .returned (RV 0 k n f s r) ∧ Below w.heap.size w w' := by
  go_enter Try.func70, Try.ntmps70
  go_wp2_with fail
  refine (isnan_any _ _).mono ?_
  rintro e wq0 ⟨rfl, rfl⟩
  go_wp2_with fail
  refine (mfloor _ _ h1).mono ?_
  rintro e wq1 ⟨rfl, rfl⟩
  go_wp2_with fail
  exact bodyPost_ret (v := RV 0 k n f s r) (by simp [results, Try.results70, go_sem]) rfl ⟨rfl, bw2 _ _ _⟩

set_option maxRecDepth 20000 in
set_option maxHeartbeats 400000 in
theorem ifk_eq_lt (k n : Int) (f : Nat) (s : ByteArray) (r : Int) (w : World) (h1 : FloatKind.f64.format.order f f = some .eq) (h4 : FloatKind.f64.format.order f 14114281232179134464 = some .eq) (h3 : FloatKind.f64.format.order f 4890909195324358656 = some .lt) (h5 : FloatKind.f64.format.order f (Fl.flr f) = some .eq) (T : Int) (hT : floatToIntVal .f64 f .i64 = some T) :
    Calls Try.prog 70 #[VV k n f s r, .float .f64 f] w fun e w' => e = .returned (RV 0 2 T 0 ⟨#[]⟩ 0) ∧ Below w.heap.size w w' := by
  have hcv : ∀ w : World, (convert 22 2 (.float .f64 f)).run Try.prog w = .ok (.int .i64 T) w := fun w => run_convert_float_int w 22 2 .f64 .i64 f T (by kernel_rfl) Try.underlying2 hT
  clear hT
  go_enter Try.func70, Try.ntmps70
  go_wp2_with fail
  refine (isnan_any _ _).mono ?_
  rintro e wq0 ⟨rfl, rfl⟩
  go_wp2_with fail
  refine (mfloor _ _ h1).mono ?_
  rintro e wq1 ⟨rfl, rfl⟩
  go_wp2_with fail
  refine (ig_int _ _).mono ?_
  rintro e w102 ⟨rfl, hx⟩
  obtain ⟨hb, sl, c0, c1, c2, c3, c4⟩ := box5s hx
  clear hx
  obtain ⟨v0, v1, v2, v3, v4, v5, d0, d1, d2, d3, d4, d5, z, hz⟩ := sl.cells
  go_wp2_with fail
  exact bodyPost_ret (v := RV 0 2 T 0 ⟨#[]⟩ 0) (by simp [results, Try.results70, go_sem, d0, d1, d2, d3, d4, d5]) rfl ⟨rfl, below6 hb (by omega) _ _ _ _ _ _⟩

set_option maxRecDepth 20000 in
set_option maxHeartbeats 400000 in
theorem ifk_gt_eq (k n : Int) (f : Nat) (s : ByteArray) (r : Int) (w : World) (h1 : FloatKind.f64.format.order f f = some .eq) (h4 : FloatKind.f64.format.order f 14114281232179134464 = some .gt) (h3 : FloatKind.f64.format.order f 4890909195324358656 = some .eq) :
    Calls Try.prog 70 #[VV k n f s r, .float .f64 f] w fun e w' => e = .returned (RV 0 k n f s r) ∧ Below w.heap.size w w' := by
  go_enter Try.func70, Try.ntmps70
  go_wp2_with fail
  refine (isnan_any _ _).mono ?_
  rintro e wq0 ⟨rfl, rfl⟩
  go_wp2_with fail
  exact bodyPost_ret (v := RV 0 k n f s r) (by simp [results, Try.results70, go_sem]) rfl ⟨rfl, bw2 _ _ _⟩

set_option maxRecDepth 20000 in
set_option maxHeartbeats 400000 in
theorem ifk_gt_gt (k n : Int) (f : Nat) (s : ByteArray) (r : Int) (w : World) (h1 : FloatKind.f64.format.order f f = some .eq) (h4 : FloatKind.f64.format.order f 14114281232179134464 = some .gt) (h3 : FloatKind.f64.format.order f 4890909195324358656 = some .gt) :
    Calls Try.prog 70 #[VV k n f s r, .float .f64 f] w fun e w' => e = .returned (RV 0 k n f s r) ∧ Below w.heap.size w w' := by
  go_enter Try.func70, Try.ntmps70
  go_wp2_with fail
  refine (isnan_any _ _).mono ?_
  rintro e wq0 ⟨rfl, rfl⟩
  go_wp2_with fail
  exact bodyPost_ret (v := RV 0 k n f s r) (by simp [results, Try.results70, go_sem]) rfl ⟨rfl, bw2 _ _ _⟩

set_option maxRecDepth 20000 in
set_option maxHeartbeats 400000 in
theorem ifk_gt_lt_ne (k n : Int) (f : Nat) (s : ByteArray) (r : Int) (w : World) (h1 : FloatKind.f64.format.order f f = some .eq) (h4 : FloatKind.f64.format.order f 14114281232179134464 = some .gt) (h3 : FloatKind.f64.format.order f 4890909195324358656 = some .lt) (h5 : (FloatKind.f64.format.order f (Fl.flr f) == some .eq) = false) :
    Calls Try.prog 70 #[VV k n f s r, .float .f64 f] w fun e w' => e = .returned (RV 0 k n f s r) ∧ Below w.heap.size w w' := by
  go_enter Try.func70, Try.ntmps70
  go_wp2_with fail
  refine (isnan_any _ _).mono ?_
  rintro e wq0 ⟨rfl, rfl⟩
  go_wp2_with fail
  refine (mfloor _ _ h1).mono ?_
  rintro e wq1 ⟨rfl, rfl⟩
  go_wp2_with fail
  exact bodyPost_ret (v := RV 0 k n f s r) (by simp [results, Try.results70, go_sem]) rfl ⟨rfl, bw2 _ _ _⟩

set_option maxRecDepth 20000 in
set_option maxHeartbeats 400000 in
theorem ifk_gt_lt (k n : Int) (f : Nat) (s : ByteArray) (r : Int) (w : World) (h1 : FloatKind.f64.format.order f f = some .eq) (h4 : FloatKind.f64.format.order f 14114281232179134464 = some .gt) (h3 : FloatKind.f64.format.order f 4890909195324358656 = some .lt) (h5 : FloatKind.f64.format.order f (Fl.flr f) = some .eq) (T : Int) (hT : floatToIntVal .f64 f .i64 = some T) :
    Calls Try.prog 70 #[VV k n f s r, .float .f64 f] w fun e w' => e = .returned (RV 0 2 T 0 ⟨#[]⟩ 0) ∧ Below w.heap.size w w' := by
  have hcv : ∀ w : World, (convert 22 2 (.float .f64 f)).run Try.prog w = .ok (.int .i64 T) w := fun w => run_convert_float_int w 22 2 .f64 .i64 f T (by kernel_rfl) Try.underlying2 hT
  clear hT
  go_enter Try.func70, Try.ntmps70
  go_wp2_with fail
  refine (isnan_any _ _).mono ?_
  rintro e wq0 ⟨rfl, rfl⟩
  go_wp2_with fail
  refine (mfloor _ _ h1).mono ?_
  rintro e wq1 ⟨rfl, rfl⟩
  go_wp2_with fail
  refine (ig_int _ _).mono ?_
  rintro e w103 ⟨rfl, hx⟩
  obtain ⟨hb, sl, c0, c1, c2, c3, c4⟩ := box5s hx
  clear hx
  obtain ⟨v0, v1, v2, v3, v4, v5, d0, d1, d2, d3, d4, d5, z, hz⟩ := sl.cells
  go_wp2_with fail
  exact bodyPost_ret (v := RV 0 2 T 0 ⟨#[]⟩ 0) (by simp [results, Try.results70, go_sem, d0, d1, d2, d3, d4, d5]) rfl ⟨rfl, below6 hb (by omega) _ _ _ _ _ _⟩

set_option maxRecDepth 20000 in
set_option maxHeartbeats 400000 in
theorem ik_bad (k n : Int) (f : Nat) (s : ByteArray) (r : Int) (w : World) (hv : vok k n f s r = false) :
    Calls Try.prog 31 #[VV k n f s r] w fun e w' => e = .returned (RV 1 0 0 0 ⟨#[]⟩ 0) ∧ Below w.heap.size w w' := by
  have ht := tm_nil hv
  go_enter Try.func31, Try.ntmps31
  go_wp2_with fail
  refine (term_any _ _ _ _ _ _).mono ?_
  rintro e w104 ⟨rfl, hx⟩
  obtain ⟨hb, sl, c0, c1, c2, c3, c4⟩ := box5s hx
  clear hx
  go_wp2_with fail
  refine (ig_fail _ _).mono ?_
  rintro e w105 ⟨rfl, hx⟩
  replace hb := hb.trans (hx.mono hb.size)
  replace sl := Slot.later hx sl; replace c0 := cell_later hx c0; replace c1 := cell_later hx c1; replace c2 := cell_later hx c2; replace c3 := cell_later hx c3; replace c4 := cell_later hx c4
  clear hx
  obtain ⟨v0, v1, v2, v3, v4, v5, d0, d1, d2, d3, d4, d5, z, hz⟩ := sl.cells
  go_wp2_with fail
  exact bodyPost_ret (v := RV 1 0 0 0 ⟨#[]⟩ 0) (by simp [results, Try.results31, go_sem, d0, d1, d2, d3, d4, d5]) rfl ⟨rfl, below6 hb (by omega) _ _ _ _ _ _⟩

set_option maxRecDepth 20000 in
set_option maxHeartbeats 400000 in
theorem ik_0 (n : Int) (f : Nat) (s : ByteArray) (r : Int) (w : World) (hv : vok 0 n f s r = true) :
    Calls Try.prog 31 #[VV 0 n f s r] w fun e w' => e = .returned (RV 5 0 0 0 ⟨#[]⟩ 0) ∧ Below w.heap.size w w' := by
  have ht := tm0 hv
  go_enter Try.func31, Try.ntmps31
  go_wp2_with fail
  refine (term_any _ _ _ _ _ _).mono ?_
  rintro e w106 ⟨rfl, hx⟩
  obtain ⟨hb, sl, c0, c1, c2, c3, c4⟩ := box5s hx
  clear hx
  go_wp2_with fail
  refine (ig_fail _ _).mono ?_
  rintro e w99 ⟨rfl, hy⟩
  have hx := (bw1 _ _).trans (hy.mono (by simp))
  replace hb := hb.trans (hx.mono hb.size)
  replace sl := Slot.later hx sl
  obtain ⟨v0, v1, v2, v3, v4, v5, d0, d1, d2, d3, d4, d5, z, hz⟩ := sl.cells
  go_wp2_with fail
  exact bodyPost_ret (v := RV 5 0 0 0 ⟨#[]⟩ 0) (by simp [results, Try.results31, go_sem, d0, d1, d2, d3, d4, d5]) rfl ⟨rfl, below6 hb (by omega) _ _ _ _ _ _⟩

set_option maxRecDepth 20000 in
set_option maxHeartbeats 400000 in
theorem ik_1 (n : Int) (f : Nat) (s : ByteArray) (r : Int) (w : World) (hv : vok 1 n f s r = true) :
    Calls Try.prog 31 #[VV 1 n f s r] w fun e w' => e = .returned (RV 0 1 n f s r) ∧ Below w.heap.size w w' := by
  have ht := tm1 hv
  go_enter Try.func31, Try.ntmps31
  go_wp2_with fail
  refine (term_any _ _ _ _ _ _).mono ?_
  rintro e w107 ⟨rfl, hx⟩
  obtain ⟨hb, sl, c0, c1, c2, c3, c4⟩ := box5s hx
  clear hx
  obtain ⟨v0, v1, v2, v3, v4, v5, d0, d1, d2, d3, d4, d5, z, hz⟩ := sl.cells
  go_wp2_with fail
  exact bodyPost_ret (v := RV 0 1 n f s r) (by simp [results, Try.results31, go_sem, d0, d1, d2, d3, d4, d5]) rfl ⟨rfl, below6 hb (by omega) _ _ _ _ _ _⟩

set_option maxRecDepth 20000 in
set_option maxHeartbeats 400000 in
theorem ik_2 (n : Int) (f : Nat) (s : ByteArray) (r : Int) (w : World) (hv : vok 2 n f s r = true) :
    Calls Try.prog 31 #[VV 2 n f s r] w fun e w' => e = .returned (RV 0 2 n f s r) ∧ Below w.heap.size w w' := by
  have ht := tm2 hv
  go_enter Try.func31, Try.ntmps31
  go_wp2_with fail
  refine (term_any _ _ _ _ _ _).mono ?_
  rintro e w108 ⟨rfl, hx⟩
  obtain ⟨hb, sl, c0, c1, c2, c3, c4⟩ := box5s hx
  clear hx
  obtain ⟨v0, v1, v2, v3, v4, v5, d0, d1, d2, d3, d4, d5, z, hz⟩ := sl.cells
  go_wp2_with fail
  exact bodyPost_ret (v := RV 0 2 n f s r) (by simp [results, Try.results31, go_sem, d0, d1, d2, d3, d4, d5]) rfl ⟨rfl, below6 hb (by omega) _ _ _ _ _ _⟩

set_option maxRecDepth 20000 in
set_option maxHeartbeats 400000 in
theorem ik_4 (n : Int) (f : Nat) (s : ByteArray) (r : Int) (w : World) (hv : vok 4 n f s r = true) :
    Calls Try.prog 31 #[VV 4 n f s r] w fun e w' => e = .returned (RV 0 4 n f s r) ∧ Below w.heap.size w w' := by
  have ht := tm4 hv
  go_enter Try.func31, Try.ntmps31
  go_wp2_with fail
  refine (term_any _ _ _ _ _ _).mono ?_
  rintro e w109 ⟨rfl, hx⟩
  obtain ⟨hb, sl, c0, c1, c2, c3, c4⟩ := box5s hx
  clear hx
  obtain ⟨v0, v1, v2, v3, v4, v5, d0, d1, d2, d3, d4, d5, z, hz⟩ := sl.cells
  go_wp2_with fail
  exact bodyPost_ret (v := RV 0 4 n f s r) (by simp [results, Try.results31, go_sem, d0, d1, d2, d3, d4, d5]) rfl ⟨rfl, below6 hb (by omega) _ _ _ _ _ _⟩

set_option maxRecDepth 20000 in
set_option maxHeartbeats 400000 in
theorem ik_5 (n : Int) (f : Nat) (s : ByteArray) (r : Int) (w : World) (hv : vok 5 n f s r = true) :
    Calls Try.prog 31 #[VV 5 n f s r] w fun e w' => e = .returned (RV 0 5 n f s r) ∧ Below w.heap.size w w' := by
  have ht := tm5 hv
  go_enter Try.func31, Try.ntmps31
  go_wp2_with fail
  refine (term_any _ _ _ _ _ _).mono ?_
  rintro e w110 ⟨rfl, hx⟩
  obtain ⟨hb, sl, c0, c1, c2, c3, c4⟩ := box5s hx
  clear hx
  obtain ⟨v0, v1, v2, v3, v4, v5, d0, d1, d2, d3, d4, d5, z, hz⟩ := sl.cells
  go_wp2_with fail
  exact bodyPost_ret (v := RV 0 5 n f s r) (by simp [results, Try.results31, go_sem, d0, d1, d2, d3, d4, d5]) rfl ⟨rfl, below6 hb (by omega) _ _ _ _ _ _⟩

set_option maxRecDepth 20000 in
set_option maxHeartbeats 400000 in
theorem ik_6 (n : Int) (f : Nat) (s : ByteArray) (r : Int) (w : World) (hv : vok 6 n f s r = true) :
    Calls Try.prog 31 #[VV 6 n f s r] w fun e w' => e = .returned (RV 0 6 n f s r) ∧ Below w.heap.size w w' := by
  have ht := tm6 hv
  go_enter Try.func31, Try.ntmps31
  go_wp2_with fail
  refine (term_any _ _ _ _ _ _).mono ?_
  rintro e w111 ⟨rfl, hx⟩
  obtain ⟨hb, sl, c0, c1, c2, c3, c4⟩ := box5s hx
  clear hx
  obtain ⟨v0, v1, v2, v3, v4, v5, d0, d1, d2, d3, d4, d5, z, hz⟩ := sl.cells
  go_wp2_with fail
  exact bodyPost_ret (v := RV 0 6 n f s r) (by simp [results, Try.results31, go_sem, d0, d1, d2, d3, d4, d5]) rfl ⟨rfl, below6 hb (by omega) _ _ _ _ _ _⟩

set_option maxRecDepth 20000 in
set_option maxHeartbeats 400000 in
theorem ik_7 (n : Int) (f : Nat) (s : ByteArray) (r : Int) (w : World) (hv : vok 7 n f s r = true) :
    Calls Try.prog 31 #[VV 7 n f s r] w fun e w' => e = .returned (RV 0 7 n f s r) ∧ Below w.heap.size w w' := by
  have ht := tm7 hv
  go_enter Try.func31, Try.ntmps31
  go_wp2_with fail
  refine (term_any _ _ _ _ _ _).mono ?_
  rintro e w112 ⟨rfl, hx⟩
  obtain ⟨hb, sl, c0, c1, c2, c3, c4⟩ := box5s hx
  clear hx
  obtain ⟨v0, v1, v2, v3, v4, v5, d0, d1, d2, d3, d4, d5, z, hz⟩ := sl.cells
  go_wp2_with fail
  exact bodyPost_ret (v := RV 0 7 n f s r) (by simp [results, Try.results31, go_sem, d0, d1, d2, d3, d4, d5]) rfl ⟨rfl, below6 hb (by omega) _ _ _ _ _ _⟩

set_option maxRecDepth 20000 in
set_option maxHeartbeats 400000 in
theorem ik_8 (n : Int) (f : Nat) (s : ByteArray) (r : Int) (w : World) (hv : vok 8 n f s r = true) :
    Calls Try.prog 31 #[VV 8 n f s r] w fun e w' => e = .returned (RV 0 8 n f s r) ∧ Below w.heap.size w w' := by
  have ht := tm8 hv
  go_enter Try.func31, Try.ntmps31
  go_wp2_with fail
  refine (term_any _ _ _ _ _ _).mono ?_
  rintro e w113 ⟨rfl, hx⟩
  obtain ⟨hb, sl, c0, c1, c2, c3, c4⟩ := box5s hx
  clear hx
  obtain ⟨v0, v1, v2, v3, v4, v5, d0, d1, d2, d3, d4, d5, z, hz⟩ := sl.cells
  go_wp2_with fail
  exact bodyPost_ret (v := RV 0 8 n f s r) (by simp [results, Try.results31, go_sem, d0, d1, d2, d3, d4, d5]) rfl ⟨rfl, below6 hb (by omega) _ _ _ _ _ _⟩

set_option maxRecDepth 20000 in
set_option maxHeartbeats 400000 in
theorem ik_3 (n : Int) (f : Nat) (s : ByteArray) (r : Int) (w : World) (hv : vok 3 n f s r = true) (qc qk qn : Int) (qf : Nat) (qs : ByteArray) (qr : Int)
    (hk : ∀ w : World, Calls Try.prog 70 #[VV 3 n f s r, .float .f64 f] w fun e w' => e = .returned (RV qc qk qn qf qs qr) ∧ Below w.heap.size w w') :
    Calls Try.prog 31 #[VV 3 n f s r] w fun e w' => e = .returned (RV qc qk qn qf qs qr) ∧ Below w.heap.size w w' := by
  have ht := tm3 hv
  have hK : Hid (∀ w : World, Calls Try.prog 70 #[VV 3 n f s r, .float .f64 f] w fun e w' => e = .returned (RV qc qk qn qf qs qr) ∧ Below w.heap.size w w') := hk
  clear hk
  go_enter Try.func31, Try.ntmps31
  go_wp2_with fail
  refine (term_any _ _ _ _ _ _).mono ?_
  rintro e w114 ⟨rfl, hx⟩
  obtain ⟨hb, sl, c0, c1, c2, c3, c4⟩ := box5s hx
  clear hx
  go_wp2_with fail
  refine (hK.out _).mono ?_
  rintro e w115 ⟨rfl, hx⟩
  replace hb := hb.trans (hx.mono hb.size)
  replace sl := Slot.later hx sl
  clear hx
  obtain ⟨v0, v1, v2, v3, v4, v5, d0, d1, d2, d3, d4, d5, z, hz⟩ := sl.cells
  go_wp2_with fail
  exact bodyPost_ret (v := RV qc qk qn qf qs qr) (by simp [results, Try.results31, go_sem, d0, d1, d2, d3, d4, d5]) rfl ⟨rfl, below6 hb (by omega) _ _ _ _ _ _⟩
end Go.Proofs.Ytkipmogmejfmcaa
