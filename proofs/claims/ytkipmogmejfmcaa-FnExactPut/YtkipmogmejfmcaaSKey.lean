/-
  OWN WORK. The contracts of Key: the specification's.
-/
import Derived.Test.YtkipmogmejfmcaaTruth
import Derived.Test.YtkipmogmejfmcaaSlot
import Derived.Test.YtkipmogmejfmcaaAssert
import Derived.Test.YtkipmogmejfmcaaFloor
import Derived.Deep.QuietTactic
import Derived.BigQuiet
namespace Go.Proofs.Ytkipmogmejfmcaa
open Go.RowKit
attribute [local go_sem] run_store_float
attribute [local go_sem] ta_nil_str ta_bool_str ta_int_str ta_flt_str ta_str_str ta_builtin_str ta_ref_str ta_none_str ta_nil_int ta_bool_int ta_int_int ta_flt_int ta_str_int ta_builtin_int ta_ref_int ta_none_int ta_nil_flt ta_bool_flt ta_int_flt ta_flt_flt ta_str_flt ta_builtin_flt ta_ref_flt ta_none_flt ta_nil_nil ta_bool_nil ta_int_nil ta_flt_nil ta_str_nil ta_builtin_nil ta_ref_nil ta_none_nil
set_option linter.unusedVariables false

set_option maxRecDepth 20000 in
set_option maxHeartbeats 400000 in
theorem sk_bad (k n : Int) (f : Nat) (s : ByteArray) (r : Int) (w : World) (hs : s.size ≤ maxLen) (hv : vok k n f s r = false) :
    Calls Try.prog 30 #[VV k n f s r] w fun e w' => e = .returned (RV 1 0 0 0 ⟨#[]⟩ 0) ∧ Below w.heap.size w w' := by
  go_enter Try.func30, Try.ntmps30
  go_wp2_with fail
  refine (vok_any _ _ _ _ _ _ hs).mono ?_
  rintro e w101 ⟨rfl, hx⟩
  obtain ⟨hb, sl, c0, c1, c2, c3, c4⟩ := box5s hx
  clear hx
  go_wp2_with fail
  refine (mk_fail _ _).mono ?_
  rintro e w102 ⟨rfl, hx⟩
  replace hb := hb.trans (hx.mono hb.size)
  replace sl := Slot.later hx sl; replace c0 := cell_later hx c0; replace c1 := cell_later hx c1; replace c2 := cell_later hx c2; replace c3 := cell_later hx c3; replace c4 := cell_later hx c4
  clear hx
  obtain ⟨v0, v1, v2, v3, v4, v5, d0, d1, d2, d3, d4, d5, z, hz⟩ := sl.cells
  go_wp2_with fail
  exact bodyPost_ret (v := RV 1 0 0 0 ⟨#[]⟩ 0) (by simp [results, Try.results30, go_sem, d0, d1, d2, d3, d4, d5]) rfl ⟨rfl, below6 hb (by omega) _ _ _ _ _ _⟩

set_option maxRecDepth 20000 in
set_option maxHeartbeats 400000 in
theorem sk_nil (n : Int) (f : Nat) (s : ByteArray) (r : Int) (w : World) (hs : s.size ≤ maxLen) (hv : vok 0 n f s r = true) :
    Calls Try.prog 30 #[VV 0 n f s r] w fun e w' => e = .returned (RV 5 0 0 0 ⟨#[]⟩ 0) ∧ Below w.heap.size w w' := by
  go_enter Try.func30, Try.ntmps30
  go_wp2_with fail
  refine (vok_any _ _ _ _ _ _ hs).mono ?_
  rintro e w103 ⟨rfl, hx⟩
  obtain ⟨hb, sl, c0, c1, c2, c3, c4⟩ := box5s hx
  clear hx
  go_wp2_with fail
  refine (mk_fail _ _).mono ?_
  rintro e w104 ⟨rfl, hx⟩
  replace hb := hb.trans (hx.mono hb.size)
  replace sl := Slot.later hx sl; replace c0 := cell_later hx c0; replace c1 := cell_later hx c1; replace c2 := cell_later hx c2; replace c3 := cell_later hx c3; replace c4 := cell_later hx c4
  clear hx
  obtain ⟨v0, v1, v2, v3, v4, v5, d0, d1, d2, d3, d4, d5, z, hz⟩ := sl.cells
  go_wp2_with fail
  exact bodyPost_ret (v := RV 5 0 0 0 ⟨#[]⟩ 0) (by simp [results, Try.results30, go_sem, d0, d1, d2, d3, d4, d5]) rfl ⟨rfl, below6 hb (by omega) _ _ _ _ _ _⟩

set_option maxRecDepth 20000 in
set_option maxHeartbeats 400000 in
theorem sk_other (k n : Int) (f : Nat) (s : ByteArray) (r : Int) (w : World) (hs : s.size ≤ maxLen) (hv : vok k n f s r = true) (h0 : (k == 0) = false) (h3 : (k == 3) = false) :
    Calls Try.prog 30 #[VV k n f s r] w fun e w' => e = .returned (RV 0 k n f s r) ∧ Below w.heap.size w w' := by
  go_enter Try.func30, Try.ntmps30
  go_wp2_with fail
  refine (vok_any _ _ _ _ _ _ hs).mono ?_
  rintro e w105 ⟨rfl, hx⟩
  obtain ⟨hb, sl, c0, c1, c2, c3, c4⟩ := box5s hx
  clear hx
  go_wp2_with fail
  go_quiet (fail)
  have hd := fun (W : World) => below_draw W.heap.size W nq
  replace hb := hb.trans ((hd _).mono hb.size)
  replace sl := Slot.later (hd _) sl; replace c0 := cell_later (hd _) c0; replace c1 := cell_later (hd _) c1; replace c2 := cell_later (hd _) c2; replace c3 := cell_later (hd _) c3; replace c4 := cell_later (hd _) c4
  clear hd
  go_wp2_with fail
  refine (mk_got _ _ _ _ _ _).mono ?_
  rintro e w106 ⟨rfl, hx⟩
  replace hb := hb.trans (hx.mono hb.size)
  replace sl := Slot.later hx sl; replace c0 := cell_later hx c0; replace c1 := cell_later hx c1; replace c2 := cell_later hx c2; replace c3 := cell_later hx c3; replace c4 := cell_later hx c4
  clear hx
  obtain ⟨v0, v1, v2, v3, v4, v5, d0, d1, d2, d3, d4, d5, z, hz⟩ := sl.cells
  go_wp2_with fail
  exact bodyPost_ret (v := RV 0 k n f s r) (by simp [results, Try.results30, go_sem, d0, d1, d2, d3, d4, d5]) rfl ⟨rfl, below6 hb (by omega) _ _ _ _ _ _⟩

set_option maxRecDepth 20000 in
set_option maxHeartbeats 400000 in
theorem sk_nan (n : Int) (f : Nat) (s : ByteArray) (r : Int) (w : World) (hs : s.size ≤ maxLen) (hv : vok 3 n f s r = true) (hf : f < 18446744073709551616) (h1 : FloatKind.f64.format.order f f = none) :
    Calls Try.prog 30 #[VV 3 n f s r] w fun e w' => e = .returned (RV 5 0 0 0 ⟨#[]⟩ 0) ∧ Below w.heap.size w w' := by
  go_enter Try.func30, Try.ntmps30
  go_wp2_with fail
  refine (vok_any _ _ _ _ _ _ hs).mono ?_
  rintro e w107 ⟨rfl, hx⟩
  obtain ⟨hb, sl, c0, c1, c2, c3, c4⟩ := box5s hx
  clear hx
  go_wp2_with fail
  refine (nan_any _ _).mono ?_
  rintro e wq0 ⟨rfl, rfl⟩
  go_wp2_with fail
  refine (mk_fail _ _).mono ?_
  rintro e w108 ⟨rfl, hx⟩
  replace hb := hb.trans (hx.mono hb.size)
  replace sl := Slot.later hx sl; replace c0 := cell_later hx c0; replace c1 := cell_later hx c1; replace c2 := cell_later hx c2; replace c3 := cell_later hx c3; replace c4 := cell_later hx c4
  clear hx
  obtain ⟨v0, v1, v2, v3, v4, v5, d0, d1, d2, d3, d4, d5, z, hz⟩ := sl.cells
  go_wp2_with fail
  exact bodyPost_ret (v := RV 5 0 0 0 ⟨#[]⟩ 0) (by simp [results, Try.results30, go_sem, d0, d1, d2, d3, d4, d5]) rfl ⟨rfl, below6 hb (by omega) _ _ _ _ _ _⟩

set_option maxRecDepth 20000 in
set_option maxHeartbeats 400000 in
theorem sk_ne (n : Int) (f : Nat) (s : ByteArray) (r : Int) (w : World) (hs : s.size ≤ maxLen) (hv : vok 3 n f s r = true) (hf : f < 18446744073709551616) (h1 : FloatKind.f64.format.order f f = some .eq) (h5 : (FloatKind.f64.format.order f (Fl.l1f f) == some .eq) = false) :
    Calls Try.prog 30 #[VV 3 n f s r] w fun e w' => e = .returned (RV 0 3 n f s r) ∧ Below w.heap.size w w' := by
  go_enter Try.func30, Try.ntmps30
  go_wp2_with fail
  refine (vok_any _ _ _ _ _ _ hs).mono ?_
  rintro e w109 ⟨rfl, hx⟩
  obtain ⟨hb, sl, c0, c1, c2, c3, c4⟩ := box5s hx
  clear hx
  go_wp2_with fail
  refine (nan_any _ _).mono ?_
  rintro e wq0 ⟨rfl, rfl⟩
  go_wp2_with fail
  go_quiet ((go_at_call 66; exact Calls.quiet_of_same (floor_any _ _ hf)))
  have hd := fun (W : World) => below_draw W.heap.size W nq
  replace hb := hb.trans ((hd _).mono hb.size)
  replace sl := Slot.later (hd _) sl; replace c0 := cell_later (hd _) c0; replace c1 := cell_later (hd _) c1; replace c2 := cell_later (hd _) c2; replace c3 := cell_later (hd _) c3; replace c4 := cell_later (hd _) c4
  clear hd
  go_wp2_with fail
  refine (mk_got _ _ _ _ _ _).mono ?_
  rintro e w110 ⟨rfl, hx⟩
  replace hb := hb.trans (hx.mono hb.size)
  replace sl := Slot.later hx sl; replace c0 := cell_later hx c0; replace c1 := cell_later hx c1; replace c2 := cell_later hx c2; replace c3 := cell_later hx c3; replace c4 := cell_later hx c4
  clear hx
  obtain ⟨v0, v1, v2, v3, v4, v5, d0, d1, d2, d3, d4, d5, z, hz⟩ := sl.cells
  go_wp2_with fail
  exact bodyPost_ret (v := RV 0 3 n f s r) (by simp [results, Try.results30, go_sem, d0, d1, d2, d3, d4, d5]) rfl ⟨rfl, below6 hb (by omega) _ _ _ _ _ _⟩

set_option maxRecDepth 20000 in
set_option maxHeartbeats 400000 in
theorem sk_lt (n : Int) (f : Nat) (s : ByteArray) (r : Int) (w : World) (hs : s.size ≤ maxLen) (hv : vok 3 n f s r = true) (hf : f < 18446744073709551616) (h1 : FloatKind.f64.format.order f f = some .eq) (h5 : FloatKind.f64.format.order f (Fl.l1f f) = some .eq) (h4 : FloatKind.f64.format.order f 14114281232179134464 = some .lt) :
    Calls Try.prog 30 #[VV 3 n f s r] w fun e w' => e = .returned (RV 0 3 n f s r) ∧ Below w.heap.size w w' := by
  go_enter Try.func30, Try.ntmps30
  go_wp2_with fail
  refine (vok_any _ _ _ _ _ _ hs).mono ?_
  rintro e w111 ⟨rfl, hx⟩
  obtain ⟨hb, sl, c0, c1, c2, c3, c4⟩ := box5s hx
  clear hx
  go_wp2_with fail
  refine (nan_any _ _).mono ?_
  rintro e wq0 ⟨rfl, rfl⟩
  go_wp2_with fail
  go_quiet ((go_at_call 66; exact Calls.quiet_of_same (floor_any _ _ hf)))
  have hd := fun (W : World) => below_draw W.heap.size W nq
  replace hb := hb.trans ((hd _).mono hb.size)
  replace sl := Slot.later (hd _) sl; replace c0 := cell_later (hd _) c0; replace c1 := cell_later (hd _) c1; replace c2 := cell_later (hd _) c2; replace c3 := cell_later (hd _) c3; replace c4 := cell_later (hd _) c4
  clear hd
  go_wp2_with fail
  refine (mk_got _ _ _ _ _ _).mono ?_
  rintro e w112 ⟨rfl, hx⟩
  replace hb := hb.trans (hx.mono hb.size)
  replace sl := Slot.later hx sl; replace c0 := cell_later hx c0; replace c1 := cell_later hx c1; replace c2 := cell_later hx c2; replace c3 := cell_later hx c3; replace c4 := cell_later hx c4
  clear hx
  obtain ⟨v0, v1, v2, v3, v4, v5, d0, d1, d2, d3, d4, d5, z, hz⟩ := sl.cells
  go_wp2_with fail
  exact bodyPost_ret (v := RV 0 3 n f s r) (by simp [results, Try.results30, go_sem, d0, d1, d2, d3, d4, d5]) rfl ⟨rfl, below6 hb (by omega) _ _ _ _ _ _⟩

set_option maxRecDepth 20000 in
set_option maxHeartbeats 400000 in
theorem sk_eq_eq (n : Int) (f : Nat) (s : ByteArray) (r : Int) (w : World) (hs : s.size ≤ maxLen) (hv : vok 3 n f s r = true) (hf : f < 18446744073709551616) (h1 : FloatKind.f64.format.order f f = some .eq) (h5 : FloatKind.f64.format.order f (Fl.l1f f) = some .eq) (h4 : FloatKind.f64.format.order f 14114281232179134464 = some .eq) (h3 : FloatKind.f64.format.order f 4890909195324358656 = some .eq) :
    Calls Try.prog 30 #[VV 3 n f s r] w fun e w' => e = .returned (RV 0 3 n f s r) ∧ Below w.heap.size w w' := by
  go_enter Try.func30, Try.ntmps30
  go_wp2_with fail
  refine (vok_any _ _ _ _ _ _ hs).mono ?_
  rintro e w113 ⟨rfl, hx⟩
  obtain ⟨hb, sl, c0, c1, c2, c3, c4⟩ := box5s hx
  clear hx
  go_wp2_with fail
  refine (nan_any _ _).mono ?_
  rintro e wq0 ⟨rfl, rfl⟩
  go_wp2_with fail
  go_quiet ((go_at_call 66; exact Calls.quiet_of_same (floor_any _ _ hf)))
  have hd := fun (W : World) => below_draw W.heap.size W nq
  replace hb := hb.trans ((hd _).mono hb.size)
  replace sl := Slot.later (hd _) sl; replace c0 := cell_later (hd _) c0; replace c1 := cell_later (hd _) c1; replace c2 := cell_later (hd _) c2; replace c3 := cell_later (hd _) c3; replace c4 := cell_later (hd _) c4
  clear hd
  go_wp2_with fail
  refine (mk_got _ _ _ _ _ _).mono ?_
  rintro e w114 ⟨rfl, hx⟩
  replace hb := hb.trans (hx.mono hb.size)
  replace sl := Slot.later hx sl; replace c0 := cell_later hx c0; replace c1 := cell_later hx c1; replace c2 := cell_later hx c2; replace c3 := cell_later hx c3; replace c4 := cell_later hx c4
  clear hx
  obtain ⟨v0, v1, v2, v3, v4, v5, d0, d1, d2, d3, d4, d5, z, hz⟩ := sl.cells
  go_wp2_with fail
  exact bodyPost_ret (v := RV 0 3 n f s r) (by simp [results, Try.results30, go_sem, d0, d1, d2, d3, d4, d5]) rfl ⟨rfl, below6 hb (by omega) _ _ _ _ _ _⟩

set_option maxRecDepth 20000 in
set_option maxHeartbeats 400000 in
theorem sk_eq_gt (n : Int) (f : Nat) (s : ByteArray) (r : Int) (w : World) (hs : s.size ≤ maxLen) (hv : vok 3 n f s r = true) (hf : f < 18446744073709551616) (h1 : FloatKind.f64.format.order f f = some .eq) (h5 : FloatKind.f64.format.order f (Fl.l1f f) = some .eq) (h4 : FloatKind.f64.format.order f 14114281232179134464 = some .eq) (h3 : FloatKind.f64.format.order f 4890909195324358656 = some .gt) :
    Calls Try.prog 30 #[VV 3 n f s r] w fun e w' => e = .returned (RV 0 3 n f s r) ∧ Below w.heap.size w w' := by
  go_enter Try.func30, Try.ntmps30
  go_wp2_with fail
  refine (vok_any _ _ _ _ _ _ hs).mono ?_
  rintro e w115 ⟨rfl, hx⟩
  obtain ⟨hb, sl, c0, c1, c2, c3, c4⟩ := box5s hx
  clear hx
  go_wp2_with fail
  refine (nan_any _ _).mono ?_
  rintro e wq0 ⟨rfl, rfl⟩
  go_wp2_with fail
  go_quiet ((go_at_call 66; exact Calls.quiet_of_same (floor_any _ _ hf)))
  have hd := fun (W : World) => below_draw W.heap.size W nq
  replace hb := hb.trans ((hd _).mono hb.size)
  replace sl := Slot.later (hd _) sl; replace c0 := cell_later (hd _) c0; replace c1 := cell_later (hd _) c1; replace c2 := cell_later (hd _) c2; replace c3 := cell_later (hd _) c3; replace c4 := cell_later (hd _) c4
  clear hd
  go_wp2_with fail
  refine (mk_got _ _ _ _ _ _).mono ?_
  rintro e w116 ⟨rfl, hx⟩
  replace hb := hb.trans (hx.mono hb.size)
  replace sl := Slot.later hx sl; replace c0 := cell_later hx c0; replace c1 := cell_later hx c1; replace c2 := cell_later hx c2; replace c3 := cell_later hx c3; replace c4 := cell_later hx c4
  clear hx
  obtain ⟨v0, v1, v2, v3, v4, v5, d0, d1, d2, d3, d4, d5, z, hz⟩ := sl.cells
  go_wp2_with fail
  exact bodyPost_ret (v := RV 0 3 n f s r) (by simp [results, Try.results30, go_sem, d0, d1, d2, d3, d4, d5]) rfl ⟨rfl, below6 hb (by omega) _ _ _ _ _ _⟩

set_option maxRecDepth 20000 in
set_option maxHeartbeats 400000 in
theorem sk_eq_lt (n : Int) (f : Nat) (s : ByteArray) (r : Int) (w : World) (hs : s.size ≤ maxLen) (hv : vok 3 n f s r = true) (hf : f < 18446744073709551616) (h1 : FloatKind.f64.format.order f f = some .eq) (h5 : FloatKind.f64.format.order f (Fl.l1f f) = some .eq) (h4 : FloatKind.f64.format.order f 14114281232179134464 = some .eq) (h3 : FloatKind.f64.format.order f 4890909195324358656 = some .lt) (T : Int) (hT : floatToIntVal .f64 f .i64 = some T) :
    Calls Try.prog 30 #[VV 3 n f s r] w fun e w' => e = .returned (RV 0 2 T 0 ⟨#[]⟩ 0) ∧ Below w.heap.size w w' := by
  have hcv : ∀ w : World, (convert 22 2 (.float .f64 f)).run Try.prog w = .ok (.int .i64 T) w := fun w => run_convert_float_int w 22 2 .f64 .i64 f T (by kernel_rfl) Try.underlying2 hT
  clear hT
  go_enter Try.func30, Try.ntmps30
  go_wp2_with fail
  refine (vok_any _ _ _ _ _ _ hs).mono ?_
  rintro e w117 ⟨rfl, hx⟩
  obtain ⟨hb, sl, c0, c1, c2, c3, c4⟩ := box5s hx
  clear hx
  go_wp2_with fail
  refine (nan_any _ _).mono ?_
  rintro e wq0 ⟨rfl, rfl⟩
  go_wp2_with fail
  go_quiet ((go_at_call 66; exact Calls.quiet_of_same (floor_any _ _ hf)))
  have hd := fun (W : World) => below_draw W.heap.size W nq
  replace hb := hb.trans ((hd _).mono hb.size)
  replace sl := Slot.later (hd _) sl; replace c0 := cell_later (hd _) c0; replace c1 := cell_later (hd _) c1; replace c2 := cell_later (hd _) c2; replace c3 := cell_later (hd _) c3; replace c4 := cell_later (hd _) c4
  clear hd
  go_wp2_with fail
  refine (mk_int _ _).mono ?_
  rintro e w118 ⟨rfl, hx⟩
  replace hb := hb.trans (hx.mono hb.size)
  replace sl := Slot.later hx sl; replace c0 := cell_later hx c0; replace c1 := cell_later hx c1; replace c2 := cell_later hx c2; replace c3 := cell_later hx c3; replace c4 := cell_later hx c4
  clear hx
  go_wp2_with fail
  refine (mk_got _ _ _ _ _ _).mono ?_
  rintro e w119 ⟨rfl, hx⟩
  replace hb := hb.trans (hx.mono hb.size)
  replace sl := Slot.later hx sl; replace c0 := cell_later hx c0; replace c1 := cell_later hx c1; replace c2 := cell_later hx c2; replace c3 := cell_later hx c3; replace c4 := cell_later hx c4
  clear hx
  obtain ⟨v0, v1, v2, v3, v4, v5, d0, d1, d2, d3, d4, d5, z, hz⟩ := sl.cells
  go_wp2_with fail
  exact bodyPost_ret (v := RV 0 2 T 0 ⟨#[]⟩ 0) (by simp [results, Try.results30, go_sem, d0, d1, d2, d3, d4, d5]) rfl ⟨rfl, below6 hb (by omega) _ _ _ _ _ _⟩

set_option maxRecDepth 20000 in
set_option maxHeartbeats 400000 in
theorem sk_gt_eq (n : Int) (f : Nat) (s : ByteArray) (r : Int) (w : World) (hs : s.size ≤ maxLen) (hv : vok 3 n f s r = true) (hf : f < 18446744073709551616) (h1 : FloatKind.f64.format.order f f = some .eq) (h5 : FloatKind.f64.format.order f (Fl.l1f f) = some .eq) (h4 : FloatKind.f64.format.order f 14114281232179134464 = some .gt) (h3 : FloatKind.f64.format.order f 4890909195324358656 = some .eq) :
    Calls Try.prog 30 #[VV 3 n f s r] w fun e w' => e = .returned (RV 0 3 n f s r) ∧ Below w.heap.size w w' := by
  go_enter Try.func30, Try.ntmps30
  go_wp2_with fail
  refine (vok_any _ _ _ _ _ _ hs).mono ?_
  rintro e w120 ⟨rfl, hx⟩
  obtain ⟨hb, sl, c0, c1, c2, c3, c4⟩ := box5s hx
  clear hx
  go_wp2_with fail
  refine (nan_any _ _).mono ?_
  rintro e wq0 ⟨rfl, rfl⟩
  go_wp2_with fail
  go_quiet ((go_at_call 66; exact Calls.quiet_of_same (floor_any _ _ hf)))
  have hd := fun (W : World) => below_draw W.heap.size W nq
  replace hb := hb.trans ((hd _).mono hb.size)
  replace sl := Slot.later (hd _) sl; replace c0 := cell_later (hd _) c0; replace c1 := cell_later (hd _) c1; replace c2 := cell_later (hd _) c2; replace c3 := cell_later (hd _) c3; replace c4 := cell_later (hd _) c4
  clear hd
  go_wp2_with fail
  refine (mk_got _ _ _ _ _ _).mono ?_
  rintro e w121 ⟨rfl, hx⟩
  replace hb := hb.trans (hx.mono hb.size)
  replace sl := Slot.later hx sl; replace c0 := cell_later hx c0; replace c1 := cell_later hx c1; replace c2 := cell_later hx c2; replace c3 := cell_later hx c3; replace c4 := cell_later hx c4
  clear hx
  obtain ⟨v0, v1, v2, v3, v4, v5, d0, d1, d2, d3, d4, d5, z, hz⟩ := sl.cells
  go_wp2_with fail
  exact bodyPost_ret (v := RV 0 3 n f s r) (by simp [results, Try.results30, go_sem, d0, d1, d2, d3, d4, d5]) rfl ⟨rfl, below6 hb (by omega) _ _ _ _ _ _⟩

set_option maxRecDepth 20000 in
set_option maxHeartbeats 400000 in
theorem sk_gt_gt (n : Int) (f : Nat) (s : ByteArray) (r : Int) (w : World) (hs : s.size ≤ maxLen) (hv : vok 3 n f s r = true) (hf : f < 18446744073709551616) (h1 : FloatKind.f64.format.order f f = some .eq) (h5 : FloatKind.f64.format.order f (Fl.l1f f) = some .eq) (h4 : FloatKind.f64.format.order f 14114281232179134464 = some .gt) (h3 : FloatKind.f64.format.order f 4890909195324358656 = some .gt) :
    Calls Try.prog 30 #[VV 3 n f s r] w fun e w' => e = .returned (RV 0 3 n f s r) ∧ Below w.heap.size w w' := by
  go_enter Try.func30, Try.ntmps30
  go_wp2_with fail
  refine (vok_any _ _ _ _ _ _ hs).mono ?_
  rintro e w122 ⟨rfl, hx⟩
  obtain ⟨hb, sl, c0, c1, c2, c3, c4⟩ := box5s hx
  clear hx
  go_wp2_with fail
  refine (nan_any _ _).mono ?_
  rintro e wq0 ⟨rfl, rfl⟩
  go_wp2_with fail
  go_quiet ((go_at_call 66; exact Calls.quiet_of_same (floor_any _ _ hf)))
  have hd := fun (W : World) => below_draw W.heap.size W nq
  replace hb := hb.trans ((hd _).mono hb.size)
  replace sl := Slot.later (hd _) sl; replace c0 := cell_later (hd _) c0; replace c1 := cell_later (hd _) c1; replace c2 := cell_later (hd _) c2; replace c3 := cell_later (hd _) c3; replace c4 := cell_later (hd _) c4
  clear hd
  go_wp2_with fail
  refine (mk_got _ _ _ _ _ _).mono ?_
  rintro e w123 ⟨rfl, hx⟩
  replace hb := hb.trans (hx.mono hb.size)
  replace sl := Slot.later hx sl; replace c0 := cell_later hx c0; replace c1 := cell_later hx c1; replace c2 := cell_later hx c2; replace c3 := cell_later hx c3; replace c4 := cell_later hx c4
  clear hx
  obtain ⟨v0, v1, v2, v3, v4, v5, d0, d1, d2, d3, d4, d5, z, hz⟩ := sl.cells
  go_wp2_with fail
  exact bodyPost_ret (v := RV 0 3 n f s r) (by simp [results, Try.results30, go_sem, d0, d1, d2, d3, d4, d5]) rfl ⟨rfl, below6 hb (by omega) _ _ _ _ _ _⟩

set_option maxRecDepth 20000 in
set_option maxHeartbeats 400000 in
theorem sk_gt_lt (n : Int) (f : Nat) (s : ByteArray) (r : Int) (w : World) (hs : s.size ≤ maxLen) (hv : vok 3 n f s r = true) (hf : f < 18446744073709551616) (h1 : FloatKind.f64.format.order f f = some .eq) (h5 : FloatKind.f64.format.order f (Fl.l1f f) = some .eq) (h4 : FloatKind.f64.format.order f 14114281232179134464 = some .gt) (h3 : FloatKind.f64.format.order f 4890909195324358656 = some .lt) (T : Int) (hT : floatToIntVal .f64 f .i64 = some T) :
    Calls Try.prog 30 #[VV 3 n f s r] w fun e w' => e = .returned (RV 0 2 T 0 ⟨#[]⟩ 0) ∧ Below w.heap.size w w' := by
  have hcv : ∀ w : World, (convert 22 2 (.float .f64 f)).run Try.prog w = .ok (.int .i64 T) w := fun w => run_convert_float_int w 22 2 .f64 .i64 f T (by kernel_rfl) Try.underlying2 hT
  clear hT
  go_enter Try.func30, Try.ntmps30
  go_wp2_with fail
  refine (vok_any _ _ _ _ _ _ hs).mono ?_
  rintro e w124 ⟨rfl, hx⟩
  obtain ⟨hb, sl, c0, c1, c2, c3, c4⟩ := box5s hx
  clear hx
  go_wp2_with fail
  refine (nan_any _ _).mono ?_
  rintro e wq0 ⟨rfl, rfl⟩
  go_wp2_with fail
  go_quiet ((go_at_call 66; exact Calls.quiet_of_same (floor_any _ _ hf)))
  have hd := fun (W : World) => below_draw W.heap.size W nq
  replace hb := hb.trans ((hd _).mono hb.size)
  replace sl := Slot.later (hd _) sl; replace c0 := cell_later (hd _) c0; replace c1 := cell_later (hd _) c1; replace c2 := cell_later (hd _) c2; replace c3 := cell_later (hd _) c3; replace c4 := cell_later (hd _) c4
  clear hd
  go_wp2_with fail
  refine (mk_int _ _).mono ?_
  rintro e w125 ⟨rfl, hx⟩
  replace hb := hb.trans (hx.mono hb.size)
  replace sl := Slot.later hx sl; replace c0 := cell_later hx c0; replace c1 := cell_later hx c1; replace c2 := cell_later hx c2; replace c3 := cell_later hx c3; replace c4 := cell_later hx c4
  clear hx
  go_wp2_with fail
  refine (mk_got _ _ _ _ _ _).mono ?_
  rintro e w126 ⟨rfl, hx⟩
  replace hb := hb.trans (hx.mono hb.size)
  replace sl := Slot.later hx sl; replace c0 := cell_later hx c0; replace c1 := cell_later hx c1; replace c2 := cell_later hx c2; replace c3 := cell_later hx c3; replace c4 := cell_later hx c4
  clear hx
  obtain ⟨v0, v1, v2, v3, v4, v5, d0, d1, d2, d3, d4, d5, z, hz⟩ := sl.cells
  go_wp2_with fail
  exact bodyPost_ret (v := RV 0 2 T 0 ⟨#[]⟩ 0) (by simp [results, Try.results30, go_sem, d0, d1, d2, d3, d4, d5]) rfl ⟨rfl, below6 hb (by omega) _ _ _ _ _ _⟩
end Go.Proofs.Ytkipmogmejfmcaa
