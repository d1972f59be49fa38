/-
  OWN WORK. Numbers held against each other: the contracts of the leaves.
-/
import Derived.Test.YtkipmogmejfmcaaFloor
import Derived.Test.YtkipmogmejfmcaaStr
import Derived.Test.YtkipmogmejfmcaaVal
namespace Go.Proofs.Ytkipmogmejfmcaa
open Go.RowKit
set_option linter.unusedVariables false

def ncmp (a b : Int) : Int := if a < b then -1 else if b < a then 1 else 0

set_option maxRecDepth 20000 in
set_option maxHeartbeats 400000 in
theorem icmp_int (a b : Int) (w : World) : Calls Try.prog 97 #[.int .i64 a, .int .i64 b] w fun e w' => e = .returned (.int .i64 (ncmp a b)) ∧ w' = w := by
  by_cases h1 : a < b
  · have H : Hid (ncmp a b = -1) := by unfold ncmp; rw [if_pos h1]; rfl
    go_enter Try.func97, Try.ntmps97
    go_wp2
    go_ret
    exact ⟨ret_i H.out.symm, rfl⟩
  · by_cases h2 : b < a
    · have H : Hid (ncmp a b = 1) := by unfold ncmp; rw [if_neg h1, if_pos h2]; rfl
      go_enter Try.func97, Try.ntmps97
      go_wp2
      go_ret
      exact ⟨ret_i H.out.symm, rfl⟩
    · have H : Hid (ncmp a b = 0) := by unfold ncmp; rw [if_neg h1, if_neg h2]; rfl
      go_enter Try.func97, Try.ntmps97
      go_wp2
      go_ret
      exact ⟨ret_i H.out.symm, rfl⟩

set_option maxRecDepth 20000 in
set_option maxHeartbeats 400000 in
theorem icmp_i64 (a b : Int) (w : World) : Calls Try.prog 119 #[.int .i64 a, .int .i64 b] w fun e w' => e = .returned (.int .i64 (ncmp a b)) ∧ w' = w := by
  by_cases h1 : a < b
  · have H : Hid (ncmp a b = -1) := by unfold ncmp; rw [if_pos h1]; rfl
    go_enter Try.func119, Try.ntmps119
    go_wp2
    go_ret
    exact ⟨ret_i H.out.symm, rfl⟩
  · by_cases h2 : b < a
    · have H : Hid (ncmp a b = 1) := by unfold ncmp; rw [if_neg h1, if_pos h2]; rfl
      go_enter Try.func119, Try.ntmps119
      go_wp2
      go_ret
      exact ⟨ret_i H.out.symm, rfl⟩
    · have H : Hid (ncmp a b = 0) := by unfold ncmp; rw [if_neg h1, if_neg h2]; rfl
      go_enter Try.func119, Try.ntmps119
      go_wp2
      go_ret
      exact ⟨ret_i H.out.symm, rfl⟩

/-- How two floats stand to each other, as an int; 2 where one is no number. -/
def ocmp : Option Ordering → Int
  | some .lt => -1
  | some .gt => 1
  | some .eq => 0
  | none => 2

set_option maxRecDepth 20000 in
set_option maxHeartbeats 400000 in
theorem cfl_lt (x y : Nat) (w : World) (h : FloatKind.f64.format.order x y = some .lt) : Calls Try.prog 100 #[.float .f64 x, .float .f64 y] w fun e w' => e = .returned (.int .i64 (-1)) ∧ w' = w := by
  go_enter Try.func100, Try.ntmps100
  go_wp2
  go_ret
  exact ⟨rfl, rfl⟩

set_option maxRecDepth 20000 in
set_option maxHeartbeats 400000 in
theorem cfl_gt (x y : Nat) (w : World) (h : FloatKind.f64.format.order x y = some .gt) : Calls Try.prog 100 #[.float .f64 x, .float .f64 y] w fun e w' => e = .returned (.int .i64 (1)) ∧ w' = w := by
  go_enter Try.func100, Try.ntmps100
  go_wp2
  go_ret
  exact ⟨rfl, rfl⟩

set_option maxRecDepth 20000 in
set_option maxHeartbeats 400000 in
theorem cfl_eq (x y : Nat) (w : World) (h : FloatKind.f64.format.order x y = some .eq) : Calls Try.prog 100 #[.float .f64 x, .float .f64 y] w fun e w' => e = .returned (.int .i64 (0)) ∧ w' = w := by
  go_enter Try.func100, Try.ntmps100
  go_wp2
  go_ret
  exact ⟨rfl, rfl⟩

set_option maxRecDepth 20000 in
set_option maxHeartbeats 400000 in
theorem cfl_none (x y : Nat) (w : World) (h : FloatKind.f64.format.order x y = none) : Calls Try.prog 100 #[.float .f64 x, .float .f64 y] w fun e w' => e = .returned (.int .i64 (2)) ∧ w' = w := by
  go_enter Try.func100, Try.ntmps100
  go_wp2
  go_ret
  exact ⟨rfl, rfl⟩

theorem cfl_any (x y : Nat) (w : World) : Calls Try.prog 100 #[.float .f64 x, .float .f64 y] w fun e w' => e = .returned (.int .i64 (ocmp (FloatKind.f64.format.order x y))) ∧ w' = w := by
  rcases h : FloatKind.f64.format.order x y with _ | _ | _ | _
  · exact cfl_none x y w h
  · exact cfl_lt x y w h
  · exact cfl_eq x y w h
  · exact cfl_gt x y w h

set_option maxRecDepth 20000 in
set_option maxHeartbeats 400000 in
theorem isnan_a (x : Nat) (w : World) : Calls Try.prog 101 #[.float .f64 x] w fun e w' => e = .returned (.bool (FloatKind.f64.format.order x x != some .eq)) ∧ w' = w := by
  go_enter Try.func101, Try.ntmps101
  go_wp2
  go_ret
  exact ⟨rfl, rfl⟩

set_option maxRecDepth 20000 in
set_option maxHeartbeats 400000 in
theorem trn_m1 (w : World) : Calls Try.prog 99 #[.int .i64 (-1)] w fun e w' => e = .returned (.int .i64 (1)) ∧ w' = w := by
  go_enter Try.func99, Try.ntmps99
  go_wp2
  go_ret
  exact ⟨rfl, rfl⟩

set_option maxRecDepth 20000 in
set_option maxHeartbeats 400000 in
theorem trn_1 (w : World) : Calls Try.prog 99 #[.int .i64 (1)] w fun e w' => e = .returned (.int .i64 (-1)) ∧ w' = w := by
  go_enter Try.func99, Try.ntmps99
  go_wp2
  go_ret
  exact ⟨rfl, rfl⟩

set_option maxRecDepth 20000 in
set_option maxHeartbeats 400000 in
theorem trn_0 (w : World) : Calls Try.prog 99 #[.int .i64 (0)] w fun e w' => e = .returned (.int .i64 (0)) ∧ w' = w := by
  go_enter Try.func99, Try.ntmps99
  go_wp2
  go_ret
  exact ⟨rfl, rfl⟩

set_option maxRecDepth 20000 in
set_option maxHeartbeats 400000 in
theorem trn_2 (w : World) : Calls Try.prog 99 #[.int .i64 (2)] w fun e w' => e = .returned (.int .i64 (2)) ∧ w' = w := by
  go_enter Try.func99, Try.ntmps99
  go_wp2
  go_ret
  exact ⟨rfl, rfl⟩

set_option maxRecDepth 20000 in
set_option maxHeartbeats 400000 in
theorem sif_gt (i : Int) (x : Nat) (w : World) (hx : x < 18446744073709551616) (h3 : FloatKind.f64.format.order x 4890909195324358656 = some .gt) : Calls Try.prog 62 #[.int .i64 i, .float .f64 x] w fun e w' => e = .returned (.int .i64 (-1)) ∧ w' = w := by
  go_enter Try.func62, Try.ntmps62
  go_wp2_with fail
  go_ret
  exact ⟨rfl, rfl⟩

set_option maxRecDepth 20000 in
set_option maxHeartbeats 400000 in
theorem sif_eq (i : Int) (x : Nat) (w : World) (hx : x < 18446744073709551616) (h3 : FloatKind.f64.format.order x 4890909195324358656 = some .eq) : Calls Try.prog 62 #[.int .i64 i, .float .f64 x] w fun e w' => e = .returned (.int .i64 (-1)) ∧ w' = w := by
  go_enter Try.func62, Try.ntmps62
  go_wp2_with fail
  go_ret
  exact ⟨rfl, rfl⟩

set_option maxRecDepth 20000 in
set_option maxHeartbeats 400000 in
theorem sif_lo (i : Int) (x : Nat) (w : World) (hx : x < 18446744073709551616) (h3 : FloatKind.f64.format.order x 4890909195324358656 = some .lt) (h4 : FloatKind.f64.format.order x 14114281232179134464 = some .lt) : Calls Try.prog 62 #[.int .i64 i, .float .f64 x] w fun e w' => e = .returned (.int .i64 (1)) ∧ w' = w := by
  go_enter Try.func62, Try.ntmps62
  go_wp2_with fail
  go_ret
  exact ⟨rfl, rfl⟩

set_option maxRecDepth 20000 in
set_option maxHeartbeats 400000 in
theorem iif_nan (i : Int) (x : Nat) (w : World) (hx : x < 18446744073709551616) (h1 : FloatKind.f64.format.order x x = none) : Calls Try.prog 98 #[.int .i64 i, .float .f64 x] w fun e w' => e = .returned (.int .i64 (2)) ∧ w' = w := by
  go_enter Try.func98, Try.ntmps98
  go_wp2_with fail
  refine (isnan_a _ _).mono ?_
  rintro e w1 ⟨rfl, rfl⟩
  go_wp2_with fail
  go_ret
  exact ⟨rfl, rfl⟩

set_option maxRecDepth 20000 in
set_option maxHeartbeats 400000 in
theorem iif_gt (i : Int) (x : Nat) (w : World) (hx : x < 18446744073709551616) (h1 : FloatKind.f64.format.order x x = some .eq) (h3 : FloatKind.f64.format.order x 4890909195324358656 = some .gt) : Calls Try.prog 98 #[.int .i64 i, .float .f64 x] w fun e w' => e = .returned (.int .i64 (-1)) ∧ w' = w := by
  go_enter Try.func98, Try.ntmps98
  go_wp2_with fail
  refine (isnan_a _ _).mono ?_
  rintro e w1 ⟨rfl, rfl⟩
  go_wp2_with fail
  go_ret
  exact ⟨rfl, rfl⟩

set_option maxRecDepth 20000 in
set_option maxHeartbeats 400000 in
theorem iif_eq (i : Int) (x : Nat) (w : World) (hx : x < 18446744073709551616) (h1 : FloatKind.f64.format.order x x = some .eq) (h3 : FloatKind.f64.format.order x 4890909195324358656 = some .eq) : Calls Try.prog 98 #[.int .i64 i, .float .f64 x] w fun e w' => e = .returned (.int .i64 (-1)) ∧ w' = w := by
  go_enter Try.func98, Try.ntmps98
  go_wp2_with fail
  refine (isnan_a _ _).mono ?_
  rintro e w1 ⟨rfl, rfl⟩
  go_wp2_with fail
  go_ret
  exact ⟨rfl, rfl⟩

set_option maxRecDepth 20000 in
set_option maxHeartbeats 400000 in
theorem iif_lo (i : Int) (x : Nat) (w : World) (hx : x < 18446744073709551616) (h1 : FloatKind.f64.format.order x x = some .eq) (h3 : FloatKind.f64.format.order x 4890909195324358656 = some .lt) (h4 : FloatKind.f64.format.order x 14114281232179134464 = some .lt) : Calls Try.prog 98 #[.int .i64 i, .float .f64 x] w fun e w' => e = .returned (.int .i64 (1)) ∧ w' = w := by
  go_enter Try.func98, Try.ntmps98
  go_wp2_with fail
  refine (isnan_a _ _).mono ?_
  rintro e w1 ⟨rfl, rfl⟩
  go_wp2_with fail
  go_ret
  exact ⟨rfl, rfl⟩

set_option maxRecDepth 20000 in
set_option maxHeartbeats 400000 in
theorem sif_eq_a (i : Int) (x : Nat) (w : World) (hx : x < 18446744073709551616) (h3 : FloatKind.f64.format.order x 4890909195324358656 = some .lt) (h4 : FloatKind.f64.format.order x 14114281232179134464 = some .eq) (F : Int) (hF : floatToIntVal .f64 (Fl.l1f x) .i64 = some F) (ha : i < F) : Calls Try.prog 62 #[.int .i64 i, .float .f64 x] w fun e w' => e = .returned (.int .i64 (-1)) ∧ w' = w := by
  have hcv : ∀ w : World, (convert 22 2 (.float .f64 (Fl.l1f x))).run Try.prog w = .ok (.int .i64 F) w := fun w => run_convert_float_int w 22 2 .f64 .i64 _ F (by kernel_rfl) Try.underlying2 hF
  clear hF
  go_enter Try.func62, Try.ntmps62
  go_wp2_with fail
  refine (floor_any _ _ hx).mono ?_
  rintro e w1 ⟨rfl, rfl⟩
  go_wp2_with fail
  go_ret
  exact ⟨rfl, rfl⟩

set_option maxRecDepth 20000 in
set_option maxHeartbeats 400000 in
theorem sif_eq_b (i : Int) (x : Nat) (w : World) (hx : x < 18446744073709551616) (h3 : FloatKind.f64.format.order x 4890909195324358656 = some .lt) (h4 : FloatKind.f64.format.order x 14114281232179134464 = some .eq) (F : Int) (hF : floatToIntVal .f64 (Fl.l1f x) .i64 = some F) (ha : F < i) : Calls Try.prog 62 #[.int .i64 i, .float .f64 x] w fun e w' => e = .returned (.int .i64 (1)) ∧ w' = w := by
  have hcv : ∀ w : World, (convert 22 2 (.float .f64 (Fl.l1f x))).run Try.prog w = .ok (.int .i64 F) w := fun w => run_convert_float_int w 22 2 .f64 .i64 _ F (by kernel_rfl) Try.underlying2 hF
  clear hF
  go_enter Try.func62, Try.ntmps62
  go_wp2_with fail
  refine (floor_any _ _ hx).mono ?_
  rintro e w1 ⟨rfl, rfl⟩
  go_wp2_with fail
  go_ret
  exact ⟨rfl, rfl⟩

set_option maxRecDepth 20000 in
set_option maxHeartbeats 400000 in
theorem sif_eq_c (i : Int) (x : Nat) (w : World) (hx : x < 18446744073709551616) (h3 : FloatKind.f64.format.order x 4890909195324358656 = some .lt) (h4 : FloatKind.f64.format.order x 14114281232179134464 = some .eq) (F : Int) (hi : i = F) (hF : floatToIntVal .f64 (Fl.l1f x) .i64 = some F) (h6 : FloatKind.f64.format.order x (Fl.l1f x) = some .gt) : Calls Try.prog 62 #[.int .i64 i, .float .f64 x] w fun e w' => e = .returned (.int .i64 (-1)) ∧ w' = w := by
  have hcv : ∀ w : World, (convert 22 2 (.float .f64 (Fl.l1f x))).run Try.prog w = .ok (.int .i64 F) w := fun w => run_convert_float_int w 22 2 .f64 .i64 _ F (by kernel_rfl) Try.underlying2 hF
  clear hF
  subst hi
  go_enter Try.func62, Try.ntmps62
  go_wp2_with fail
  refine (floor_any _ _ hx).mono ?_
  rintro e w1 ⟨rfl, rfl⟩
  go_wp2_with fail
  go_ret
  exact ⟨rfl, rfl⟩

set_option maxRecDepth 20000 in
set_option maxHeartbeats 400000 in
theorem sif_eq_d (i : Int) (x : Nat) (w : World) (hx : x < 18446744073709551616) (h3 : FloatKind.f64.format.order x 4890909195324358656 = some .lt) (h4 : FloatKind.f64.format.order x 14114281232179134464 = some .eq) (F : Int) (hi : i = F) (hF : floatToIntVal .f64 (Fl.l1f x) .i64 = some F) (h6 : FloatKind.f64.format.order x (Fl.l1f x) = some .eq) : Calls Try.prog 62 #[.int .i64 i, .float .f64 x] w fun e w' => e = .returned (.int .i64 (0)) ∧ w' = w := by
  have hcv : ∀ w : World, (convert 22 2 (.float .f64 (Fl.l1f x))).run Try.prog w = .ok (.int .i64 F) w := fun w => run_convert_float_int w 22 2 .f64 .i64 _ F (by kernel_rfl) Try.underlying2 hF
  clear hF
  subst hi
  go_enter Try.func62, Try.ntmps62
  go_wp2_with fail
  refine (floor_any _ _ hx).mono ?_
  rintro e w1 ⟨rfl, rfl⟩
  go_wp2_with fail
  go_ret
  exact ⟨rfl, rfl⟩

set_option maxRecDepth 20000 in
set_option maxHeartbeats 400000 in
theorem iif_eq_a (i : Int) (x : Nat) (w : World) (hx : x < 18446744073709551616) (h1 : FloatKind.f64.format.order x x = some .eq) (h3 : FloatKind.f64.format.order x 4890909195324358656 = some .lt) (h4 : FloatKind.f64.format.order x 14114281232179134464 = some .eq) (F : Int) (hF : floatToIntVal .f64 (Fl.flr x) .i64 = some F) (hn : ncmp i F = -1) : Calls Try.prog 98 #[.int .i64 i, .float .f64 x] w fun e w' => e = .returned (.int .i64 (-1)) ∧ w' = w := by
  have hcv : ∀ w : World, (convert 22 2 (.float .f64 (Fl.flr x))).run Try.prog w = .ok (.int .i64 F) w := fun w => run_convert_float_int w 22 2 .f64 .i64 _ F (by kernel_rfl) Try.underlying2 hF
  clear hF
  go_enter Try.func98, Try.ntmps98
  go_wp2_with fail
  refine (isnan_a _ _).mono ?_
  rintro e w1 ⟨rfl, rfl⟩
  go_wp2_with fail
  refine (mfloor _ _ h1).mono ?_
  rintro e w2 ⟨rfl, rfl⟩
  go_wp2_with fail
  refine (icmp_i64 _ _ _).mono ?_
  rintro e w3 ⟨rfl, rfl⟩
  rw [hn]
  go_wp2_with fail
  go_ret
  exact ⟨rfl, rfl⟩

set_option maxRecDepth 20000 in
set_option maxHeartbeats 400000 in
theorem iif_eq_b (i : Int) (x : Nat) (w : World) (hx : x < 18446744073709551616) (h1 : FloatKind.f64.format.order x x = some .eq) (h3 : FloatKind.f64.format.order x 4890909195324358656 = some .lt) (h4 : FloatKind.f64.format.order x 14114281232179134464 = some .eq) (F : Int) (hF : floatToIntVal .f64 (Fl.flr x) .i64 = some F) (hn : ncmp i F = 1) : Calls Try.prog 98 #[.int .i64 i, .float .f64 x] w fun e w' => e = .returned (.int .i64 (1)) ∧ w' = w := by
  have hcv : ∀ w : World, (convert 22 2 (.float .f64 (Fl.flr x))).run Try.prog w = .ok (.int .i64 F) w := fun w => run_convert_float_int w 22 2 .f64 .i64 _ F (by kernel_rfl) Try.underlying2 hF
  clear hF
  go_enter Try.func98, Try.ntmps98
  go_wp2_with fail
  refine (isnan_a _ _).mono ?_
  rintro e w1 ⟨rfl, rfl⟩
  go_wp2_with fail
  refine (mfloor _ _ h1).mono ?_
  rintro e w2 ⟨rfl, rfl⟩
  go_wp2_with fail
  refine (icmp_i64 _ _ _).mono ?_
  rintro e w3 ⟨rfl, rfl⟩
  rw [hn]
  go_wp2_with fail
  go_ret
  exact ⟨rfl, rfl⟩

set_option maxRecDepth 20000 in
set_option maxHeartbeats 400000 in
theorem iif_eq_c (i : Int) (x : Nat) (w : World) (hx : x < 18446744073709551616) (h1 : FloatKind.f64.format.order x x = some .eq) (h3 : FloatKind.f64.format.order x 4890909195324358656 = some .lt) (h4 : FloatKind.f64.format.order x 14114281232179134464 = some .eq) (F : Int) (hF : floatToIntVal .f64 (Fl.flr x) .i64 = some F) (hn : ncmp i F = 0) : Calls Try.prog 98 #[.int .i64 i, .float .f64 x] w fun e w' => e = .returned (.int .i64 (ocmp (FloatKind.f64.format.order (Fl.flr x) x))) ∧ w' = w := by
  have hcv : ∀ w : World, (convert 22 2 (.float .f64 (Fl.flr x))).run Try.prog w = .ok (.int .i64 F) w := fun w => run_convert_float_int w 22 2 .f64 .i64 _ F (by kernel_rfl) Try.underlying2 hF
  clear hF
  go_enter Try.func98, Try.ntmps98
  go_wp2_with fail
  refine (isnan_a _ _).mono ?_
  rintro e w1 ⟨rfl, rfl⟩
  go_wp2_with fail
  refine (mfloor _ _ h1).mono ?_
  rintro e w2 ⟨rfl, rfl⟩
  go_wp2_with fail
  refine (icmp_i64 _ _ _).mono ?_
  rintro e w3 ⟨rfl, rfl⟩
  rw [hn]
  go_wp2_with fail
  refine (cfl_any _ _ _).mono ?_
  rintro e w4 ⟨rfl, rfl⟩
  go_wp2_with fail
  go_ret
  exact ⟨rfl, rfl⟩

set_option maxRecDepth 20000 in
set_option maxHeartbeats 400000 in
theorem sif_gt_a (i : Int) (x : Nat) (w : World) (hx : x < 18446744073709551616) (h3 : FloatKind.f64.format.order x 4890909195324358656 = some .lt) (h4 : FloatKind.f64.format.order x 14114281232179134464 = some .gt) (F : Int) (hF : floatToIntVal .f64 (Fl.l1f x) .i64 = some F) (ha : i < F) : Calls Try.prog 62 #[.int .i64 i, .float .f64 x] w fun e w' => e = .returned (.int .i64 (-1)) ∧ w' = w := by
  have hcv : ∀ w : World, (convert 22 2 (.float .f64 (Fl.l1f x))).run Try.prog w = .ok (.int .i64 F) w := fun w => run_convert_float_int w 22 2 .f64 .i64 _ F (by kernel_rfl) Try.underlying2 hF
  clear hF
  go_enter Try.func62, Try.ntmps62
  go_wp2_with fail
  refine (floor_any _ _ hx).mono ?_
  rintro e w1 ⟨rfl, rfl⟩
  go_wp2_with fail
  go_ret
  exact ⟨rfl, rfl⟩

set_option maxRecDepth 20000 in
set_option maxHeartbeats 400000 in
theorem sif_gt_b (i : Int) (x : Nat) (w : World) (hx : x < 18446744073709551616) (h3 : FloatKind.f64.format.order x 4890909195324358656 = some .lt) (h4 : FloatKind.f64.format.order x 14114281232179134464 = some .gt) (F : Int) (hF : floatToIntVal .f64 (Fl.l1f x) .i64 = some F) (ha : F < i) : Calls Try.prog 62 #[.int .i64 i, .float .f64 x] w fun e w' => e = .returned (.int .i64 (1)) ∧ w' = w := by
  have hcv : ∀ w : World, (convert 22 2 (.float .f64 (Fl.l1f x))).run Try.prog w = .ok (.int .i64 F) w := fun w => run_convert_float_int w 22 2 .f64 .i64 _ F (by kernel_rfl) Try.underlying2 hF
  clear hF
  go_enter Try.func62, Try.ntmps62
  go_wp2_with fail
  refine (floor_any _ _ hx).mono ?_
  rintro e w1 ⟨rfl, rfl⟩
  go_wp2_with fail
  go_ret
  exact ⟨rfl, rfl⟩

set_option maxRecDepth 20000 in
set_option maxHeartbeats 400000 in
theorem sif_gt_c (i : Int) (x : Nat) (w : World) (hx : x < 18446744073709551616) (h3 : FloatKind.f64.format.order x 4890909195324358656 = some .lt) (h4 : FloatKind.f64.format.order x 14114281232179134464 = some .gt) (F : Int) (hi : i = F) (hF : floatToIntVal .f64 (Fl.l1f x) .i64 = some F) (h6 : FloatKind.f64.format.order x (Fl.l1f x) = some .gt) : Calls Try.prog 62 #[.int .i64 i, .float .f64 x] w fun e w' => e = .returned (.int .i64 (-1)) ∧ w' = w := by
  have hcv : ∀ w : World, (convert 22 2 (.float .f64 (Fl.l1f x))).run Try.prog w = .ok (.int .i64 F) w := fun w => run_convert_float_int w 22 2 .f64 .i64 _ F (by kernel_rfl) Try.underlying2 hF
  clear hF
  subst hi
  go_enter Try.func62, Try.ntmps62
  go_wp2_with fail
  refine (floor_any _ _ hx).mono ?_
  rintro e w1 ⟨rfl, rfl⟩
  go_wp2_with fail
  go_ret
  exact ⟨rfl, rfl⟩

set_option maxRecDepth 20000 in
set_option maxHeartbeats 400000 in
theorem sif_gt_d (i : Int) (x : Nat) (w : World) (hx : x < 18446744073709551616) (h3 : FloatKind.f64.format.order x 4890909195324358656 = some .lt) (h4 : FloatKind.f64.format.order x 14114281232179134464 = some .gt) (F : Int) (hi : i = F) (hF : floatToIntVal .f64 (Fl.l1f x) .i64 = some F) (h6 : FloatKind.f64.format.order x (Fl.l1f x) = some .eq) : Calls Try.prog 62 #[.int .i64 i, .float .f64 x] w fun e w' => e = .returned (.int .i64 (0)) ∧ w' = w := by
  have hcv : ∀ w : World, (convert 22 2 (.float .f64 (Fl.l1f x))).run Try.prog w = .ok (.int .i64 F) w := fun w => run_convert_float_int w 22 2 .f64 .i64 _ F (by kernel_rfl) Try.underlying2 hF
  clear hF
  subst hi
  go_enter Try.func62, Try.ntmps62
  go_wp2_with fail
  refine (floor_any _ _ hx).mono ?_
  rintro e w1 ⟨rfl, rfl⟩
  go_wp2_with fail
  go_ret
  exact ⟨rfl, rfl⟩

set_option maxRecDepth 20000 in
set_option maxHeartbeats 400000 in
theorem iif_gt_a (i : Int) (x : Nat) (w : World) (hx : x < 18446744073709551616) (h1 : FloatKind.f64.format.order x x = some .eq) (h3 : FloatKind.f64.format.order x 4890909195324358656 = some .lt) (h4 : FloatKind.f64.format.order x 14114281232179134464 = some .gt) (F : Int) (hF : floatToIntVal .f64 (Fl.flr x) .i64 = some F) (hn : ncmp i F = -1) : Calls Try.prog 98 #[.int .i64 i, .float .f64 x] w fun e w' => e = .returned (.int .i64 (-1)) ∧ w' = w := by
  have hcv : ∀ w : World, (convert 22 2 (.float .f64 (Fl.flr x))).run Try.prog w = .ok (.int .i64 F) w := fun w => run_convert_float_int w 22 2 .f64 .i64 _ F (by kernel_rfl) Try.underlying2 hF
  clear hF
  go_enter Try.func98, Try.ntmps98
  go_wp2_with fail
  refine (isnan_a _ _).mono ?_
  rintro e w1 ⟨rfl, rfl⟩
  go_wp2_with fail
  refine (mfloor _ _ h1).mono ?_
  rintro e w2 ⟨rfl, rfl⟩
  go_wp2_with fail
  refine (icmp_i64 _ _ _).mono ?_
  rintro e w3 ⟨rfl, rfl⟩
  rw [hn]
  go_wp2_with fail
  go_ret
  exact ⟨rfl, rfl⟩

set_option maxRecDepth 20000 in
set_option maxHeartbeats 400000 in
theorem iif_gt_b (i : Int) (x : Nat) (w : World) (hx : x < 18446744073709551616) (h1 : FloatKind.f64.format.order x x = some .eq) (h3 : FloatKind.f64.format.order x 4890909195324358656 = some .lt) (h4 : FloatKind.f64.format.order x 14114281232179134464 = some .gt) (F : Int) (hF : floatToIntVal .f64 (Fl.flr x) .i64 = some F) (hn : ncmp i F = 1) : Calls Try.prog 98 #[.int .i64 i, .float .f64 x] w fun e w' => e = .returned (.int .i64 (1)) ∧ w' = w := by
  have hcv : ∀ w : World, (convert 22 2 (.float .f64 (Fl.flr x))).run Try.prog w = .ok (.int .i64 F) w := fun w => run_convert_float_int w 22 2 .f64 .i64 _ F (by kernel_rfl) Try.underlying2 hF
  clear hF
  go_enter Try.func98, Try.ntmps98
  go_wp2_with fail
  refine (isnan_a _ _).mono ?_
  rintro e w1 ⟨rfl, rfl⟩
  go_wp2_with fail
  refine (mfloor _ _ h1).mono ?_
  rintro e w2 ⟨rfl, rfl⟩
  go_wp2_with fail
  refine (icmp_i64 _ _ _).mono ?_
  rintro e w3 ⟨rfl, rfl⟩
  rw [hn]
  go_wp2_with fail
  go_ret
  exact ⟨rfl, rfl⟩

set_option maxRecDepth 20000 in
set_option maxHeartbeats 400000 in
theorem iif_gt_c (i : Int) (x : Nat) (w : World) (hx : x < 18446744073709551616) (h1 : FloatKind.f64.format.order x x = some .eq) (h3 : FloatKind.f64.format.order x 4890909195324358656 = some .lt) (h4 : FloatKind.f64.format.order x 14114281232179134464 = some .gt) (F : Int) (hF : floatToIntVal .f64 (Fl.flr x) .i64 = some F) (hn : ncmp i F = 0) : Calls Try.prog 98 #[.int .i64 i, .float .f64 x] w fun e w' => e = .returned (.int .i64 (ocmp (FloatKind.f64.format.order (Fl.flr x) x))) ∧ w' = w := by
  have hcv : ∀ w : World, (convert 22 2 (.float .f64 (Fl.flr x))).run Try.prog w = .ok (.int .i64 F) w := fun w => run_convert_float_int w 22 2 .f64 .i64 _ F (by kernel_rfl) Try.underlying2 hF
  clear hF
  go_enter Try.func98, Try.ntmps98
  go_wp2_with fail
  refine (isnan_a _ _).mono ?_
  rintro e w1 ⟨rfl, rfl⟩
  go_wp2_with fail
  refine (mfloor _ _ h1).mono ?_
  rintro e w2 ⟨rfl, rfl⟩
  go_wp2_with fail
  refine (icmp_i64 _ _ _).mono ?_
  rintro e w3 ⟨rfl, rfl⟩
  rw [hn]
  go_wp2_with fail
  refine (cfl_any _ _ _).mono ?_
  rintro e w4 ⟨rfl, rfl⟩
  go_wp2_with fail
  go_ret
  exact ⟨rfl, rfl⟩
end Go.Proofs.Ytkipmogmejfmcaa
