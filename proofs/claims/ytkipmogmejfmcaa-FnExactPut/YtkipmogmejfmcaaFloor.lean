/-
  OWN WORK. The contracts of the two floors.
-/
import Derived.Test.YtkipmogmejfmcaaBase
import Derived.Test.YtkipmogmejfmcaaFlc
import Derived.Laws.Externs
namespace Go.Proofs.Ytkipmogmejfmcaa
open Go.RowKit
set_option linter.unusedVariables false

set_option maxHeartbeats 400000 in
theorem nan_any (x : Nat) (w : World) : Calls Try.prog 61 #[.float .f64 x] w fun e w' => e = .returned (.bool (FloatKind.f64.format.order x x != some .eq)) ∧ w' = w := by
  go_enter Try.func61, Try.ntmps61
  go_wp2
  go_ret
  exact ⟨rfl, rfl⟩

theorem run_archFloor (x : Nat) (h : FloatKind.f64.format.order x x = some .eq) (w : World) : (callFunc 120 #[.float .f64 x]).run Try.prog w = .ok (.value (.float .f64 (Fl.flr x))) w := by
  rw [run_callFunc_extern (e := Extern.MathFloor.toIntegral "math.archFloor" .down) Try.func120 (by kernel_rfl) (by kernel_rfl) (by kernel_rfl) (by kernel_rfl)]
  have hn : ∀ s t, FloatKind.f64.decode x ≠ .nan s t := by
    intro s t hd
    have : FloatKind.f64.format.order x x = none := by
      show (FloatKind.f64.decode x).order (FloatKind.f64.decode x) = none
      rw [hd]; rfl
    rw [this] at h; cases h
  have key : (Extern.MathFloor.toIntegral "math.archFloor" .down #[.float .f64 x]).run Try.prog w = .ok (.float .f64 (Fl.flr x)) w := by
    change Sem.run _ (Extern.MathFloor.toIntegral.match_1 (fun _ => Sem Value) (FloatKind.f64.decode x) _ _) w = _
    unfold Fl.flr
    cases hd : FloatKind.f64.decode x with
    | nan s t => exact absurd hd (hn s t)
    | number s m e => rfl
    | infinity s => rfl
  rw [key]; rfl

set_option maxRecDepth 20000 in
set_option maxHeartbeats 400000 in
theorem mfloor (x : Nat) (w : World) (h : FloatKind.f64.format.order x x = some .eq) : Calls Try.prog 102 #[.float .f64 x] w fun e w' => e = .returned (.float .f64 (Fl.flr x)) ∧ w' = w := by
  have hr := run_archFloor x h
  go_enter Try.func102, Try.ntmps102
  go_wp2
  go_ret
  exact ⟨rfl, rfl⟩

set_option maxRecDepth 20000 in
set_option maxHeartbeats 400000 in
theorem fk_nan (x : Nat) (w : World) (h1 : FloatKind.f64.format.order x x = none) : Calls Try.prog 66 #[.float .f64 x] w fun e w' => e = .returned (.float .f64 x) ∧ w' = w := by
  go_enter Try.func66, Try.ntmps66
  go_wp2_with fail
  refine (nan_any _ _).mono ?_
  rintro e w1 ⟨rfl, rfl⟩
  go_wp2_with fail
  go_ret
  exact ⟨rfl, rfl⟩

set_option maxRecDepth 20000 in
set_option maxHeartbeats 400000 in
theorem fk_zero (x : Nat) (w : World) (h1 : FloatKind.f64.format.order x x = some .eq) (h2 : FloatKind.f64.format.order x 0 = some .eq) : Calls Try.prog 66 #[.float .f64 x] w fun e w' => e = .returned (.float .f64 x) ∧ w' = w := by
  go_enter Try.func66, Try.ntmps66
  go_wp2_with fail
  refine (nan_any _ _).mono ?_
  rintro e w1 ⟨rfl, rfl⟩
  go_wp2_with fail
  go_ret
  exact ⟨rfl, rfl⟩

set_option maxRecDepth 20000 in
set_option maxHeartbeats 400000 in
theorem fk_hi_lt_gt (x : Nat) (w : World) (h1 : FloatKind.f64.format.order x x = some .eq) (h2 : FloatKind.f64.format.order x 0 = some .lt) (h3 : FloatKind.f64.format.order x 4890909195324358656 = some .gt) : Calls Try.prog 66 #[.float .f64 x] w fun e w' => e = .returned (.float .f64 x) ∧ w' = w := by
  go_enter Try.func66, Try.ntmps66
  go_wp2_with fail
  refine (nan_any _ _).mono ?_
  rintro e w1 ⟨rfl, rfl⟩
  go_wp2_with fail
  go_ret
  exact ⟨rfl, rfl⟩

set_option maxRecDepth 20000 in
set_option maxHeartbeats 400000 in
theorem fk_hi_lt_eq (x : Nat) (w : World) (h1 : FloatKind.f64.format.order x x = some .eq) (h2 : FloatKind.f64.format.order x 0 = some .lt) (h3 : FloatKind.f64.format.order x 4890909195324358656 = some .eq) : Calls Try.prog 66 #[.float .f64 x] w fun e w' => e = .returned (.float .f64 x) ∧ w' = w := by
  go_enter Try.func66, Try.ntmps66
  go_wp2_with fail
  refine (nan_any _ _).mono ?_
  rintro e w1 ⟨rfl, rfl⟩
  go_wp2_with fail
  go_ret
  exact ⟨rfl, rfl⟩

set_option maxRecDepth 20000 in
set_option maxHeartbeats 400000 in
theorem fk_lo_lt_lt (x : Nat) (w : World) (h1 : FloatKind.f64.format.order x x = some .eq) (h2 : FloatKind.f64.format.order x 0 = some .lt) (h3 : FloatKind.f64.format.order x 4890909195324358656 = some .lt) (h4 : FloatKind.f64.format.order x 14114281232179134464 = some .lt) : Calls Try.prog 66 #[.float .f64 x] w fun e w' => e = .returned (.float .f64 x) ∧ w' = w := by
  go_enter Try.func66, Try.ntmps66
  go_wp2_with fail
  refine (nan_any _ _).mono ?_
  rintro e w1 ⟨rfl, rfl⟩
  go_wp2_with fail
  go_ret
  exact ⟨rfl, rfl⟩

set_option maxRecDepth 20000 in
set_option maxHeartbeats 400000 in
theorem fk_lo_lt_eq (x : Nat) (w : World) (h1 : FloatKind.f64.format.order x x = some .eq) (h2 : FloatKind.f64.format.order x 0 = some .lt) (h3 : FloatKind.f64.format.order x 4890909195324358656 = some .lt) (h4 : FloatKind.f64.format.order x 14114281232179134464 = some .eq) : Calls Try.prog 66 #[.float .f64 x] w fun e w' => e = .returned (.float .f64 x) ∧ w' = w := by
  go_enter Try.func66, Try.ntmps66
  go_wp2_with fail
  refine (nan_any _ _).mono ?_
  rintro e w1 ⟨rfl, rfl⟩
  go_wp2_with fail
  go_ret
  exact ⟨rfl, rfl⟩

set_option maxRecDepth 20000 in
set_option maxHeartbeats 400000 in
theorem fw_lt_a (x : Nat) (w : World) (h1 : FloatKind.f64.format.order x x = some .eq) (h2 : FloatKind.f64.format.order x 0 = some .lt) (h3 : FloatKind.f64.format.order x 4890909195324358656 = some .lt) (h4 : FloatKind.f64.format.order x 14114281232179134464 = some .gt) (T : Int) (y t : Nat) (hT : floatToIntVal .f64 x .i64 = some T) (ht : floatOfInt .f64 T = t) (hg : FloatKind.f64.format.order t x = some .gt) (hs : floatBits .sub .f64 t 4607182418800017408 = some y) : Calls Try.prog 66 #[.float .f64 x] w fun e w' => e = .returned (.float .f64 y) ∧ w' = w := by
  have hcv : ∀ w : World, (convert 22 2 (.float .f64 x)).run Try.prog w = .ok (.int .i64 T) w := fun w => run_convert_float_int w 22 2 .f64 .i64 x T (by kernel_rfl) Try.underlying2 hT
  have hsb : ∀ w : World, (binOp .sub 22 (.float .f64 t) (.float .f64 4607182418800017408)).run Try.prog w = .ok (.float .f64 y) w := fun w => run_float_arith w .sub 22 .f64 _ _ _ hs
  clear hs
  clear hT
  go_enter Try.func66, Try.ntmps66
  go_wp2_with fail
  refine (nan_any _ _).mono ?_
  rintro e w1 ⟨rfl, rfl⟩
  go_wp2_with fail
  go_ret
  exact ⟨rfl, rfl⟩

set_option maxRecDepth 20000 in
set_option maxHeartbeats 400000 in
theorem fw_lt_b (x : Nat) (w : World) (h1 : FloatKind.f64.format.order x x = some .eq) (h2 : FloatKind.f64.format.order x 0 = some .lt) (h3 : FloatKind.f64.format.order x 4890909195324358656 = some .lt) (h4 : FloatKind.f64.format.order x 14114281232179134464 = some .gt) (T : Int) (y t : Nat) (hT : floatToIntVal .f64 x .i64 = some T) (ht : floatOfInt .f64 T = t) (hg : (FloatKind.f64.format.order t x == some .gt) = false) (hy : t = y) : Calls Try.prog 66 #[.float .f64 x] w fun e w' => e = .returned (.float .f64 y) ∧ w' = w := by
  have hcv : ∀ w : World, (convert 22 2 (.float .f64 x)).run Try.prog w = .ok (.int .i64 T) w := fun w => run_convert_float_int w 22 2 .f64 .i64 x T (by kernel_rfl) Try.underlying2 hT
  subst hy
  clear hT
  go_enter Try.func66, Try.ntmps66
  go_wp2_with fail
  refine (nan_any _ _).mono ?_
  rintro e w1 ⟨rfl, rfl⟩
  go_wp2_with fail
  go_ret
  exact ⟨rfl, rfl⟩

set_option maxRecDepth 20000 in
set_option maxHeartbeats 400000 in
theorem fk_hi_gt_gt (x : Nat) (w : World) (h1 : FloatKind.f64.format.order x x = some .eq) (h2 : FloatKind.f64.format.order x 0 = some .gt) (h3 : FloatKind.f64.format.order x 4890909195324358656 = some .gt) : Calls Try.prog 66 #[.float .f64 x] w fun e w' => e = .returned (.float .f64 x) ∧ w' = w := by
  go_enter Try.func66, Try.ntmps66
  go_wp2_with fail
  refine (nan_any _ _).mono ?_
  rintro e w1 ⟨rfl, rfl⟩
  go_wp2_with fail
  go_ret
  exact ⟨rfl, rfl⟩

set_option maxRecDepth 20000 in
set_option maxHeartbeats 400000 in
theorem fk_hi_gt_eq (x : Nat) (w : World) (h1 : FloatKind.f64.format.order x x = some .eq) (h2 : FloatKind.f64.format.order x 0 = some .gt) (h3 : FloatKind.f64.format.order x 4890909195324358656 = some .eq) : Calls Try.prog 66 #[.float .f64 x] w fun e w' => e = .returned (.float .f64 x) ∧ w' = w := by
  go_enter Try.func66, Try.ntmps66
  go_wp2_with fail
  refine (nan_any _ _).mono ?_
  rintro e w1 ⟨rfl, rfl⟩
  go_wp2_with fail
  go_ret
  exact ⟨rfl, rfl⟩

set_option maxRecDepth 20000 in
set_option maxHeartbeats 400000 in
theorem fk_lo_gt_lt (x : Nat) (w : World) (h1 : FloatKind.f64.format.order x x = some .eq) (h2 : FloatKind.f64.format.order x 0 = some .gt) (h3 : FloatKind.f64.format.order x 4890909195324358656 = some .lt) (h4 : FloatKind.f64.format.order x 14114281232179134464 = some .lt) : Calls Try.prog 66 #[.float .f64 x] w fun e w' => e = .returned (.float .f64 x) ∧ w' = w := by
  go_enter Try.func66, Try.ntmps66
  go_wp2_with fail
  refine (nan_any _ _).mono ?_
  rintro e w1 ⟨rfl, rfl⟩
  go_wp2_with fail
  go_ret
  exact ⟨rfl, rfl⟩

set_option maxRecDepth 20000 in
set_option maxHeartbeats 400000 in
theorem fk_lo_gt_eq (x : Nat) (w : World) (h1 : FloatKind.f64.format.order x x = some .eq) (h2 : FloatKind.f64.format.order x 0 = some .gt) (h3 : FloatKind.f64.format.order x 4890909195324358656 = some .lt) (h4 : FloatKind.f64.format.order x 14114281232179134464 = some .eq) : Calls Try.prog 66 #[.float .f64 x] w fun e w' => e = .returned (.float .f64 x) ∧ w' = w := by
  go_enter Try.func66, Try.ntmps66
  go_wp2_with fail
  refine (nan_any _ _).mono ?_
  rintro e w1 ⟨rfl, rfl⟩
  go_wp2_with fail
  go_ret
  exact ⟨rfl, rfl⟩

set_option maxRecDepth 20000 in
set_option maxHeartbeats 400000 in
theorem fw_gt_a (x : Nat) (w : World) (h1 : FloatKind.f64.format.order x x = some .eq) (h2 : FloatKind.f64.format.order x 0 = some .gt) (h3 : FloatKind.f64.format.order x 4890909195324358656 = some .lt) (h4 : FloatKind.f64.format.order x 14114281232179134464 = some .gt) (T : Int) (y t : Nat) (hT : floatToIntVal .f64 x .i64 = some T) (ht : floatOfInt .f64 T = t) (hg : FloatKind.f64.format.order t x = some .gt) (hs : floatBits .sub .f64 t 4607182418800017408 = some y) : Calls Try.prog 66 #[.float .f64 x] w fun e w' => e = .returned (.float .f64 y) ∧ w' = w := by
  have hcv : ∀ w : World, (convert 22 2 (.float .f64 x)).run Try.prog w = .ok (.int .i64 T) w := fun w => run_convert_float_int w 22 2 .f64 .i64 x T (by kernel_rfl) Try.underlying2 hT
  have hsb : ∀ w : World, (binOp .sub 22 (.float .f64 t) (.float .f64 4607182418800017408)).run Try.prog w = .ok (.float .f64 y) w := fun w => run_float_arith w .sub 22 .f64 _ _ _ hs
  clear hs
  clear hT
  go_enter Try.func66, Try.ntmps66
  go_wp2_with fail
  refine (nan_any _ _).mono ?_
  rintro e w1 ⟨rfl, rfl⟩
  go_wp2_with fail
  go_ret
  exact ⟨rfl, rfl⟩

set_option maxRecDepth 20000 in
set_option maxHeartbeats 400000 in
theorem fw_gt_b (x : Nat) (w : World) (h1 : FloatKind.f64.format.order x x = some .eq) (h2 : FloatKind.f64.format.order x 0 = some .gt) (h3 : FloatKind.f64.format.order x 4890909195324358656 = some .lt) (h4 : FloatKind.f64.format.order x 14114281232179134464 = some .gt) (T : Int) (y t : Nat) (hT : floatToIntVal .f64 x .i64 = some T) (ht : floatOfInt .f64 T = t) (hg : (FloatKind.f64.format.order t x == some .gt) = false) (hy : t = y) : Calls Try.prog 66 #[.float .f64 x] w fun e w' => e = .returned (.float .f64 y) ∧ w' = w := by
  have hcv : ∀ w : World, (convert 22 2 (.float .f64 x)).run Try.prog w = .ok (.int .i64 T) w := fun w => run_convert_float_int w 22 2 .f64 .i64 x T (by kernel_rfl) Try.underlying2 hT
  subst hy
  clear hT
  go_enter Try.func66, Try.ntmps66
  go_wp2_with fail
  refine (nan_any _ _).mono ?_
  rintro e w1 ⟨rfl, rfl⟩
  go_wp2_with fail
  go_ret
  exact ⟨rfl, rfl⟩

theorem order_none {x : Nat} (hx : x < 18446744073709551616) (y : Nat) (h : FloatKind.f64.format.order x x ≠ some .eq) : FloatKind.f64.format.order x y = none := by
  rcases Fl.read_cases x hx with ⟨s, M, L, hc, hw, hr⟩ | ⟨s, hr⟩ | ⟨s, t, hr⟩
  · exact absurd (by rw [Fl.order_wd hr hr, Int.compare_eq_eq.2 rfl]) h
  · exfalso; apply h
    show (Ieee.double.read x).order (Ieee.double.read x) = _
    rw [hr]; cases s <;> rfl
  · show (Ieee.double.read x).order (Ieee.double.read y) = _
    rw [hr]; rfl

theorem floor_any (x : Nat) (w : World) (hx : x < 18446744073709551616) : Calls Try.prog 66 #[.float .f64 x] w fun e w' => e = .returned (.float .f64 (Fl.l1f x)) ∧ w' = w := by
  have stay : ∀ {h : Prop}, h → (h → Fl.l1f x = x) → (h → Calls Try.prog 66 #[.float .f64 x] w fun e w' => e = .returned (.float .f64 x) ∧ w' = w) → Calls Try.prog 66 #[.float .f64 x] w fun e w' => e = .returned (.float .f64 (Fl.l1f x)) ∧ w' = w := by
    intro h hh h1 h2; rw [h1 hh]; exact h2 hh
  by_cases h1 : FloatKind.f64.format.order x x = some .eq
  · have nn : ∀ {c : Nat} {t : Bool} {N K : Nat}, Ieee.double.read c = .number t N (-1074 + K) → FloatKind.f64.format.order x c ≠ none := by
      intro c t N K hc hno
      rcases Fl.read_cases x hx with ⟨s, M, L, _, _, hr⟩ | ⟨s, hr⟩ | ⟨s, t, hr⟩
      · rw [Fl.order_wd hr hc] at hno; cases hno
      · have : FloatKind.f64.format.order x c = some (if s then .lt else .gt) := by
          show (Ieee.double.read x).order (Ieee.double.read c) = _
          rw [hr, hc]; rfl
        rw [this] at hno; cases hno
      · have : FloatKind.f64.format.order x x = none := by
          show (Ieee.double.read x).order (Ieee.double.read x) = _
          rw [hr]; rfl
        rw [this] at h1; cases h1
    have n0 := nn Fl.read_zero
    have n3 := nn Fl.read_C63
    have n4 := nn Fl.read_N63
    have main : ∀ z, z = Ordering.lt ∨ z = Ordering.gt → FloatKind.f64.format.order x 0 = some z → Calls Try.prog 66 #[.float .f64 x] w fun e w' => e = .returned (.float .f64 (Fl.l1f x)) ∧ w' = w := by
      intro z hz h2
      rcases h3 : FloatKind.f64.format.order x Fl.C63 with _ | _ | _ | _
      · exact absurd h3 n3
      · rcases h4 : FloatKind.f64.format.order x Fl.N63 with _ | _ | _ | _
        · exact absurd h4 n4
        · refine stay (h := True) trivial (fun _ => by unfold Fl.l1f; rw [if_neg (by simp [h4])]) (fun _ => ?_)
          rcases hz with rfl | rfl
          · exact fk_lo_lt_lt x w h1 h2 h3 h4
          · exact fk_lo_gt_lt x w h1 h2 h3 h4
        · refine stay (h := True) trivial (fun _ => by unfold Fl.l1f; rw [if_neg (by simp [h4])]) (fun _ => ?_)
          rcases hz with rfl | rfl
          · exact fk_lo_lt_eq x w h1 h2 h3 h4
          · exact fk_lo_gt_eq x w h1 h2 h3 h4
        · have hl : Fl.l1f x = Fl.flr x := Fl.l1f_range hx h1 (by rw [h3]; simp) (by rw [h3]; simp) (by rw [h4]; simp)
          rw [hl]
          obtain ⟨s, M, L, hc, hw, hr, hlo, hhi⟩ := Fl.num_of hx h1 (by rw [h3]; simp) (by rw [h3]; simp) (by rw [h4]; simp)
          have hM := Fl.pos_of hr (by rw [h2]; rcases hz with rfl | rfl <;> simp)
          obtain ⟨T, hT, h | h⟩ := Fl.way hc hw hM hlo hhi
          · rcases hz with rfl | rfl
            · exact fw_lt_a x w h1 h2 h3 h4 T _ _ hT rfl h.1 h.2
            · exact fw_gt_a x w h1 h2 h3 h4 T _ _ hT rfl h.1 h.2
          · have hb : (FloatKind.f64.format.order (floatOfInt .f64 T) x == some .gt) = false := by simpa using h.1
            rcases hz with rfl | rfl
            · exact fw_lt_b x w h1 h2 h3 h4 T _ _ hT rfl hb h.2
            · exact fw_gt_b x w h1 h2 h3 h4 T _ _ hT rfl hb h.2
      · refine stay (h := True) trivial (fun _ => by unfold Fl.l1f; rw [if_neg (by simp [h3])]) (fun _ => ?_)
        rcases hz with rfl | rfl
        · exact fk_hi_lt_eq x w h1 h2 h3
        · exact fk_hi_gt_eq x w h1 h2 h3
      · refine stay (h := True) trivial (fun _ => by unfold Fl.l1f; rw [if_neg (by simp [h3])]) (fun _ => ?_)
        rcases hz with rfl | rfl
        · exact fk_hi_lt_gt x w h1 h2 h3
        · exact fk_hi_gt_gt x w h1 h2 h3
    rcases h2 : FloatKind.f64.format.order x 0 with _ | _ | _ | _
    · exact absurd h2 n0
    · exact main _ (.inl rfl) h2
    · exact stay (h := True) trivial (fun _ => by unfold Fl.l1f; rw [if_neg (by simp [h2])]) (fun _ => fk_zero x w h1 h2)
    · exact main _ (.inr rfl) h2
  · exact stay (h := True) trivial (fun _ => by unfold Fl.l1f; rw [if_neg (by simp [h1])]) (fun _ => fk_nan x w (order_none hx x h1))
end Go.Proofs.Ytkipmogmejfmcaa
