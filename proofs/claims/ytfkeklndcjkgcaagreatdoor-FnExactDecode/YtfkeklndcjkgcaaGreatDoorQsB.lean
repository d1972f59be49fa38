import Derived.Test.YtfkeklndcjkgcaaGreatDoorEsC
import Derived.Test.YtfkeklndcjkgcaaGreatDoorQsA
import Derived.Test.YtfkeklndcjkgcaaGreatDoorESpD
/-
  OWN WORK. The specification's float of 64 bits.
-/
namespace Go.Proofs.YtfkeklndcjkgcaaGreatDoor
open Go.RowKit
set_option linter.unusedVariables false
set_option linter.unusedSimpArgs false

theorem neg_wd' {M L : Nat} (h : Fl.Can M L) : Op.negFloat .f64 (Fl.wd false M L) = Fl.wd true M L := by
  have h1 := Fl.neg_wd h
  have h2 : Op.negFloat .f64 (Op.negFloat .f64 (Fl.wd true M L)) = Fl.wd true M L := by
    unfold Op.negFloat
    rw [Nat.xor_assoc, Nat.xor_self, Nat.xor_zero]
  rw [h1] at h2
  exact h2

theorem exp_bits (x : Nat) (hx : x < 18446744073709551616) : bits .and .u64 ((x : Int) / 4503599627370496) 2047 = ((x / 4503599627370496 % 2048 : Nat) : Int) := by
  have h := u64_and_nat (x / 4503599627370496) 2047 (by omega) (by omega)
  rw [show (2047 : Nat) = 2 ^ 11 - 1 by decide, Nat.and_two_pow_sub_one_eq_mod] at h
  exact h
theorem man_bits (x : Nat) (hx : x < 18446744073709551616) : bits .and .u64 (x : Int) 4503599627370495 = ((x % 4503599627370496 : Nat) : Int) := by
  have h := u64_and_nat x 4503599627370495 hx (by omega)
  rw [show (4503599627370495 : Nat) = 2 ^ 52 - 1 by decide, Nat.and_two_pow_sub_one_eq_mod] at h
  exact h
theorem one_bits (m : Nat) (hm : m < 4503599627370496) : bits .or .u64 (m : Int) 4503599627370496 = ((m + 4503599627370496 : Nat) : Int) := by
  have h := u64_or_nat m 4503599627370496 (by omega) (by omega)
  rw [Nat.or_comm, nat_join 52 4503599627370496 m (by decide) (by simpa using hm), Nat.add_comm] at h
  exact h

set_option maxRecDepth 20000 in
set_option maxHeartbeats 8000000 in
theorem lf_fin (s : Bool) (x E m M L : Nat) (w : World) (hx : x < 18446744073709551616) (hE : x / 4503599627370496 % 2048 = E) (hm : x % 4503599627370496 = m) (hE2 : E < 2047) (hM : M = if E = 0 then m else m + 4503599627370496) (hL : L = E - 1) (h0 : 0 < M) (hs : (x / 9223372036854775808 = 1) ↔ s = true) :
    Calls Tryz.prog 126 #[.int .u64 (x : Int)] w fun e w' => e = .returned (.float .f64 (if s then Op.negFloat .f64 (Fl.fl M L) else Fl.fl M L)) ∧ w' = w := by
  have hm2 : m < 4503599627370496 := by omega
  have a1 := exp_bits x hx
  have a2 := man_bits x hx
  rw [hE] at a1
  rw [hm] at a2
  have hMu : M < 9007199254740992 := by rw [hM]; split <;> omega
  have hL2 : L ≤ 2045 := by omega
  have hf := Fl.of_int M
  have HS : Hid ((x / 9223372036854775808 = 1) ↔ s = true) := hs
  have d1 : ((E : Int) == 2047) = false := by simp; omega
  clear hE hm hs
  by_cases k0 : E = 0
  case' pos =>
    subst k0
    rw [if_pos rfl] at hM
    subst hM
    have HL0 : Hid (L = 0) := by show L = 0; omega
    clear hL
    go_enter Tryz.func126, Tryz.ntmps126
    go_wp2_with fail
  case' neg =>
    rw [if_neg k0] at hM
    have a3 := one_bits m hm2
    rw [← hM] at a3
    have k1 : (0 : Int) < (E : Int) := by omega
    have hEL : (E : Int) - 1 = (L : Int) := by omega
    clear hM hL
    go_enter Tryz.func126, Tryz.ntmps126
    go_wp2_with fail
  all_goals
    clear a1 a2 hf d1
    go_loopw [6, 7] (fun f i wr => ∃ (K : Nat), f = .float .f64 (Fl.fl M K) ∧ i = .int .i64 ((L : Int) - (K : Int)) ∧ 1074 ≤ K ∧ (K = 1074 ∨ K ≤ L) ∧ Hid (wr = w)) (fun _ i _ => (intOf i).toNat)
    case atStart => exact ⟨1074, rfl, by first | rfl | (have := HL0.out; congr 1; omega), Nat.le_refl _, .inl rfl, rfl⟩
    case round =>
      obtain ⟨K, rfl, rfl, hK1, hK2, HW⟩ := hrel
      by_cases k2 : K < L
      · have t1 : (0 : Int) < (L : Int) - (K : Int) := by omega
        have m2' : (binOp .mul 111 (.float .f64 (Fl.fl M K)) (.float .f64 4611686018427387904)).run Tryz.prog wr = _ := mul_run _ _ _ (Fl.fl_two M K h0 hMu (by omega)) wr
        go_wp2_with fail
        go_roundw
        case rel => exact ⟨K + 1, rfl, by congr 1; omega, by omega, by omega, HW⟩
        case measure => simp [intOf]; omega
      · have t1 : ¬ (0 : Int) < (L : Int) - (K : Int) := by omega
        go_wp2_with fail
        go_loopw [6, 8] (fun f i wr => ∃ (K2 : Nat) (z : Int), f = .float .f64 (Fl.fl M K2) ∧ i = .int .i64 z ∧ Hid ((L ≤ K2 ∧ K2 ≤ 1074 ∧ z = (L : Int) - (K2 : Int)) ∨ (K2 = L ∧ 1074 ≤ L ∧ z = (L : Int) - 1074)) ∧ Hid (wr = w)) (fun _ i _ => (-(intOf i)).toNat)
        case atStart =>
          refine ⟨K, (L : Int) - 1074, rfl, by first | rfl | (have := HL0.out; congr 1; omega), ?_, HW⟩
          by_cases hl : 1074 ≤ L
          · exact .inr ⟨by omega, hl, rfl⟩
          · exact .inl ⟨by omega, by omega, by omega⟩
        case round =>
          clear k2 hK1 hK2 t1 HW
          obtain ⟨K2, z, rfl, rfl, hcase, HW⟩ := hrel
          by_cases k3 : L < K2
          · rcases hcase.out with ⟨q1, q2, q3⟩ | ⟨q1, _⟩
            · have t1 : z < 0 := by omega
              have m2' : (binOp .mul 111 (.float .f64 (Fl.fl M K2)) (.float .f64 4602678819172646912)).run Tryz.prog wr = _ := mul_run _ _ _ (Fl.fl_half M K2 h0 hMu (by omega) (by omega)) wr
              go_wp2_with fail
              go_roundw
              case rel => exact ⟨K2 - 1, (L : Int) - (K2 : Int) + 1, rfl, rfl, .inl ⟨by omega, by omega, by omega⟩, HW⟩
              case measure => simp [intOf]; omega
            · omega
          · have hz : ¬ z < 0 := by rcases hcase.out with ⟨q1, q2, q3⟩ | ⟨q1, q2, q3⟩ <;> omega
            obtain rfl : K2 = L := by rcases hcase.out with ⟨q1, q2, q3⟩ | ⟨q1, q2, q3⟩ <;> omega
            clear hcase
            by_cases k5 : x / 9223372036854775808 = 1
            · have k6 : ((x : Int) / 9223372036854775808) = 1 := by omega
              obtain rfl : s = true := HS.out.1 k5
              have o6 := run_negf Tryz.prog wr .f64 (Fl.fl M K2)
              go_wp2_with fail
              go_ret
              exact ⟨by simp, HW.out⟩
            · have k6 : ¬ ((x : Int) / 9223372036854775808) = 1 := by omega
              have k7 : (((x : Int) / 9223372036854775808) == 1) = false := by simpa using k6
              have hsf : s = false := by
                cases s
                · rfl
                · exact absurd (HS.out.2 rfl) k5
              subst hsf
              go_wp2_with fail
              go_ret
              exact ⟨by simp, HW.out⟩

set_option maxRecDepth 20000 in
set_option maxHeartbeats 8000000 in
theorem lf_zero (x : Nat) (w : World) (h : x = 0 ∨ x = 9223372036854775808) :
    Calls Tryz.prog 126 #[.int .u64 (x : Int)] w fun e w' => e = .returned (.float .f64 x) ∧ w' = w := by
  have hx : x < 18446744073709551616 := by omega
  have a1 : bits .and .u64 ((x : Int) / 4503599627370496) 2047 = 0 := by have := exp_bits x hx; rw [show x / 4503599627370496 % 2048 = 0 by omega] at this; exact this
  have a2 : bits .and .u64 (x : Int) 4503599627370495 = 0 := by have := man_bits x hx; rw [show x % 4503599627370496 = 0 by omega] at this; exact this
  have hf : floatOfInt .f64 0 = 0 := by decide +kernel
  have hm0 : ∀ w, (binOp .mul 111 (.float .f64 0) (.float .f64 4602678819172646912)).run Tryz.prog w = .ok (.float .f64 0) w := mul_run 0 4602678819172646912 0 (by decide +kernel)
  go_enter Tryz.func126, Tryz.ntmps126
  go_wp2_with fail
  clear a1 a2 hf
  go_loopw [6, 7] (fun f i wr => f = .float .f64 0 ∧ i = .int .i64 (-1074) ∧ Hid (wr = w)) (fun _ _ _ => 0)
  case atStart => exact ⟨rfl, rfl, rfl⟩
  case round =>
    obtain ⟨rfl, rfl, HW⟩ := hrel
    go_wp2_with fail
    go_loopw [6, 8] (fun f i wr => ∃ z : Int, f = .float .f64 0 ∧ i = .int .i64 z ∧ z ≤ 0 ∧ -1074 ≤ z ∧ Hid (wr = w)) (fun _ i _ => (-(intOf i)).toNat)
    case atStart => exact ⟨-1074, rfl, rfl, by omega, by omega, HW⟩
    case round =>
      clear HW
      obtain ⟨z, rfl, rfl, hz1, hz2, HW⟩ := hrel
      have hm1 := hm0 wr
      by_cases k3 : z < 0
      · go_wp2_with fail
        go_roundw
        case rel => exact ⟨z + 1, rfl, rfl, by omega, by omega, HW⟩
        case measure => simp [intOf]; omega
      · rcases h with rfl | rfl
        · go_wp2_with fail
          go_ret
          exact ⟨rfl, HW.out⟩
        · have o6 := run_negf Tryz.prog wr .f64 0
          have o7 : Op.negFloat .f64 0 = 9223372036854775808 := by decide +kernel
          rw [o7] at o6
          go_wp2_with fail
          go_ret
          exact ⟨rfl, HW.out⟩

theorem nan_run (w : World) : ∃ r, (binOp .quo 111 (.float .f64 0) (.float .f64 0)).run Tryz.prog w = .ok (.float .f64 r) w.drew ∧ r < 18446744073709551616 := by
  have hd : FloatKind.f64.format.div 0 0 = none := by decide +kernel
  refine ⟨_, by simp [binOp, Op.floatArith, hd]; rfl, ?_⟩
  obtain ⟨t, ht⟩ : ∃ t, t = w.tape w.drawn (Question.nanBits FloatKind.f64 0 0) := ⟨_, rfl⟩
  rw [← ht]
  unfold Question.cut
  have h1 : t % 2 < 2 := Nat.mod_lt _ (by omega)
  have h2 : (t / 2) % (2 ^ 52 - 1) < 2 ^ 52 - 1 := Nat.mod_lt _ (by decide)
  simp only [show (2 : Nat) ^ 52 = 4503599627370496 from rfl, show (2 : Nat) ^ 63 = 9223372036854775808 from rfl] at h2 ⊢
  omega

set_option maxRecDepth 20000 in
set_option maxHeartbeats 8000000 in
theorem lf_inf (x : Nat) (w : World) (h : x = 9218868437227405312 ∨ x = 18442240474082181120) :
    Calls Tryz.prog 126 #[.int .u64 (x : Int)] w fun e w' => e = .returned (.float .f64 x) ∧ w' = w := by
  have hx : x < 18446744073709551616 := by omega
  have a1 : bits .and .u64 ((x : Int) / 4503599627370496) 2047 = 2047 := by have := exp_bits x hx; rw [show x / 4503599627370496 % 2048 = 2047 by omega] at this; exact this
  have a2 : bits .and .u64 (x : Int) 4503599627370495 = 0 := by have := man_bits x hx; rw [show x % 4503599627370496 = 0 by omega] at this; exact this
  have d1 : (binOp .quo 111 (.float .f64 4607182418800017408) (.float .f64 0)).run Tryz.prog w = .ok (.float .f64 9218868437227405312) w := run_float_arith w .quo 111 .f64 _ _ _ (by decide +kernel)
  have o8 := run_negf Tryz.prog w .f64 9218868437227405312
  have o7 : Op.negFloat .f64 9218868437227405312 = 18442240474082181120 := by decide +kernel
  rw [o7] at o8
  have H : Hid (x = 9218868437227405312 ∨ x = 18442240474082181120) := h
  clear o7
  by_cases k5 : x / 9223372036854775808 = 1
  · have k6 : ((x : Int) / 9223372036854775808) = 1 := by omega
    clear h
    go_enter Tryz.func126, Tryz.ntmps126
    go_wp2_with fail
    go_ret
    obtain rfl : x = 18442240474082181120 := by have := H.out; omega
    exact ⟨rfl, rfl⟩
  · have k6 : (((x : Int) / 9223372036854775808) == 1) = false := by simp; omega
    clear h
    go_enter Tryz.func126, Tryz.ntmps126
    go_wp2_with fail
    go_ret
    obtain rfl : x = 9218868437227405312 := by have := H.out; omega
    exact ⟨rfl, rfl⟩

set_option maxRecDepth 20000 in
set_option maxHeartbeats 8000000 in
theorem lf_nan (x m : Nat) (w : World) (hx : x < 18446744073709551616) (hE : x / 4503599627370496 % 2048 = 2047) (hm : x % 4503599627370496 = m) (k0 : m ≠ 0) :
    Calls Tryz.prog 126 #[.int .u64 (x : Int)] w fun e w' => ∃ f, e = .returned (.float .f64 f) ∧ f < 18446744073709551616 ∧ Below w.heap.size w w' := by
  have a1 : bits .and .u64 ((x : Int) / 4503599627370496) 2047 = 2047 := by have := exp_bits x hx; rw [hE] at this; exact this
  have a2 := man_bits x hx
  rw [hm] at a2
  have d1 : (binOp .quo 111 (.float .f64 4607182418800017408) (.float .f64 0)).run Tryz.prog w = .ok (.float .f64 9218868437227405312) w := run_float_arith w .quo 111 .f64 _ _ _ (by decide +kernel)
  obtain ⟨r, d2, hr⟩ := nan_run w
  have o6 := run_negf Tryz.prog w.drew .f64 r
  have hrn : Op.negFloat .f64 r < 18446744073709551616 := by
    have : r ^^^ 2 ^ 63 < 2 ^ 64 := Nat.xor_lt_two_pow (by omega) (by decide)
    exact this
  have k0' : ((m : Int) == 0) = false := by simp; omega
  have HR : Hid (r < 18446744073709551616) := hr
  have HRN : Hid (Op.negFloat .f64 r < 18446744073709551616) := hrn
  clear hE hm hr hrn
  by_cases k5 : x / 9223372036854775808 = 1
  · have k6 : ((x : Int) / 9223372036854775808) = 1 := by omega
    clear k5
    go_enter Tryz.func126, Tryz.ntmps126
    go_wp2_with fail
    go_ret
    exact ⟨_, rfl, HRN.out, (Below.refl _ _).drew⟩
  · have k6 : (((x : Int) / 9223372036854775808) == 1) = false := by simp; omega
    clear k5
    go_enter Tryz.func126, Tryz.ntmps126
    go_wp2_with fail
    go_ret
    exact ⟨_, rfl, HR.out, (Below.refl _ _).drew⟩

theorem lf_odd (x m : Nat) (w : World) (hx : x < 18446744073709551616) (hE : x / 4503599627370496 % 2048 = 2047) (hm : x % 4503599627370496 = m) :
    Calls Tryz.prog 126 #[.int .u64 (x : Int)] w fun e w' => ∃ f, e = .returned (.float .f64 f) ∧ f < 18446744073709551616 ∧ (m = 0 → f = x) ∧ Below w.heap.size w w' := by
  by_cases k0 : m = 0
  · exact (lf_inf x w (by omega)).mono fun e w' q => ⟨x, q.1, hx, fun _ => rfl, by rw [q.2]; exact Below.refl _ _⟩
  · exact (lf_nan x m w hx hE hm k0).mono fun e w' ⟨f, h1, h2, h3⟩ => ⟨f, h1, h2, fun h => absurd h k0, h3⟩

/-- The float of 64 bits: itself, but for a NaN. -/
theorem lf_any (x : Nat) (w : World) (hx : x < 18446744073709551616) :
    Calls Tryz.prog 126 #[.int .u64 (x : Int)] w fun e w' => ∃ f, e = .returned (.float .f64 f) ∧ f < 18446744073709551616 ∧ ((!(FloatKind.f64.format.order x x == some .eq)) = false → f = x) ∧ Below w.heap.size w w' := by
  by_cases hz : x = 0 ∨ x = 9223372036854775808
  · exact (lf_zero x w hz).mono fun e w' q => ⟨x, q.1, hx, fun _ => rfl, by rw [q.2]; exact Below.refl _ _⟩
  by_cases hE : x / 4503599627370496 % 2048 = 2047
  · refine (lf_odd x _ w hx hE rfl).mono fun e w' ⟨f, h1, h2, h3, h4⟩ => ⟨f, h1, h2, fun hn => h3 ?_, h4⟩
    rcases Fl.read_cases x hx with ⟨s, M, L, hc, he, hr⟩ | ⟨s, hr⟩ | ⟨s, t, hr⟩
    · exfalso
      have hc1 := hc.1
      have hc3 := hc.2.2
      cases s
      · rw [Fl.wd_false] at he; omega
      · rw [Fl.wd_true] at he; omega
    · unfold Ieee.Format.read at hr
      have e1 : Ieee.double.signWeight = 9223372036854775808 := by decide
      have e3 : Ieee.double.infRung = 9218868437227405312 := by decide
      rw [e1, e3] at hr
      dsimp only at hr
      split at hr
      · cases hr
      · split at hr
        · cases hr
        · split at hr
          · omega
          · cases hr
    · exfalso
      have : FloatKind.f64.format.order x x = none := by
        show (Ieee.double.read x).order (Ieee.double.read x) = none
        rw [hr]; rfl
      rw [this] at hn
      simp at hn
  · obtain ⟨E, hE'⟩ : ∃ E, x / 4503599627370496 % 2048 = E := ⟨_, rfl⟩
    obtain ⟨m, hm⟩ : ∃ m, x % 4503599627370496 = m := ⟨_, rfl⟩
    have hE2 : E < 2047 := by omega
    have h0 : 0 < (if E = 0 then m else m + 4503599627370496) := by
      split <;> omega
    have hcan : Fl.Can (if E = 0 then m else m + 4503599627370496) (E - 1) := by
      refine ⟨?_, ?_, by omega⟩
      · split <;> omega
      · intro h; rw [if_neg (by omega)]; omega
    have hfl := Fl.fl_wd h0 hcan
    refine (lf_fin (decide (x / 9223372036854775808 = 1)) x E m _ _ w hx hE' hm hE2 rfl rfl h0 (by simp)).mono fun e w' q => ⟨x, ?_, hx, fun _ => rfl, by rw [q.2]; exact Below.refl _ _⟩
    rw [q.1, hfl]
    congr 2
    by_cases k5 : x / 9223372036854775808 = 1
    · simp only [k5, decide_true, if_true]
      rw [neg_wd' hcan, Fl.wd_true]
      split <;> omega
    · simp only [k5, decide_false, Bool.false_eq_true, if_false]
      rw [Fl.wd_false]
      split <;> omega
end Go.Proofs.YtfkeklndcjkgcaaGreatDoor

/-
  OWN WORK. The specification's reader: consts.
-/
namespace Go.Proofs.YtfkeklndcjkgcaaGreatDoor
open Go.RowKit
attribute [local go_sem] run_store_float
set_option linter.unusedVariables false
set_option linter.unusedSimpArgs false

theorem B1.blk {g : Nat} {w w' : World} (h : B1 g w w') {j : Nat} {o : Obj} (hj : w.heap[j]? = some o) (hn : j ≠ g) : w'.heap[j]? = some o := (h.block j (blk_lt hj) hn).trans hj
/-- A write into a block that is new. -/
theorem B1.put {g : Nat} {w w' : World} (h : B1 g w w') (k : Nat) (hk : w.heap.size ≤ k) (j : Nat) (v : Value) : B1 g w (w'.setCell ⟨k, j, none⟩ v) :=
  ⟨h.os, h.tape, h.output, by simpa using h.size, fun q hq hn => by rw [Below.heap_setCell _ _ _ _ (by show q ≠ k; omega)]; exact h.block q hq hn⟩
theorem RS.put {w : World} {g : Nat} {a : Option Addr} {n cap p : Nat} {bd : Bool} (h : RS w g a n cap p bd) (k : Nat) (hk : k ≠ g) (j : Nat) (v : Value) : RS (w.setCell ⟨k, j, none⟩ v) g a n cap p bd := blk_other h hk j v

/-- A const that an image may hold. -/
structure COk (v : VD) : Prop where
  k : v.k = 0 ∨ v.k = 1 ∨ v.k = 2 ∨ v.k = 3 ∨ v.k = 4 ∨ v.k = 8
  n : I64 v.n
  n0 : ¬ (v.k = 1 ∨ v.k = 2 ∨ v.k = 8) → v.n = 0
  f : v.f < 18446744073709551616
  f0 : v.k ≠ 3 → v.f = 0
  nan : v.k = 3 → nanB v.f = false
  s0 : v.k ≠ 4 → v.s = ByteArray.empty
  r : v.r = 0
theorem COk.cell {v : VD} (h : COk v) {bs r0 : List UInt8} {p : Nat} (hd : bs.drop p = constL v ++ r0) : bs[p]? = some (UInt8.ofNat v.k.toNat) ∧ (UInt8.ofNat v.k.toNat).toNat = v.k.toNat := by
  unfold constL at hd
  rw [List.cons_append] at hd
  refine ⟨(drop_head hd).1, ?_⟩
  rw [UInt8.toNat_ofNat']
  have := h.k
  omega

theorem COk.is {v : VD} (h : COk v) {bs r0 : List UInt8} {p p1 c : Nat} {bd bd1 : Bool} (hd : bs.drop p = constL v ++ r0) (hq : ∀ u, bs[p]? = some u → c = u.toNat ∧ p1 = p + 1 ∧ bd1 = bd) : v.k = (c : Int) ∧ bd1 = bd ∧ bs.drop p1 = (if v.k = 1 ∨ v.k = 2 ∨ v.k = 8 then numL v.n else if v.k = 4 then textL v.s else if v.k = 3 then bitsL v.f else []) ++ r0 := by
  obtain ⟨h1, h2⟩ := h.cell hd
  obtain ⟨h3, h4, h5⟩ := hq _ h1
  rw [h2] at h3
  refine ⟨by have := h.k; omega, h5, ?_⟩
  rw [h4]
  unfold constL at hd
  rw [List.cons_append] at hd
  exact (drop_head hd).2
theorem RS.six {w : World} {g : Nat} {a : Option Addr} {n cap p : Nat} {bd : Bool} (h : RS w g a n cap p bd) {J G : Nat} (hJ : J ≠ g) (hG : G ≠ g) (j : Nat) (v v0 v1 v2 v3 v4 : Value) : RS ((((((w.setCell ⟨J, j, none⟩ v).setCell ⟨G, 0, none⟩ v0).setCell ⟨G, 1, none⟩ v1).setCell ⟨G, 2, none⟩ v2).setCell ⟨G, 3, none⟩ v3).setCell ⟨G, 4, none⟩ v4) g a n cap p bd := (((((h.put J hJ _ _).put G hG _ _).put G hG _ _).put G hG _ _).put G hG _ _).put G hG _ _
theorem B1.six {g : Nat} {w w' : World} (h : B1 g w w') {J G : Nat} (hJ : w.heap.size ≤ J) (hG : w.heap.size ≤ G) (j : Nat) (v v0 v1 v2 v3 v4 : Value) : B1 g w ((((((w'.setCell ⟨J, j, none⟩ v).setCell ⟨G, 0, none⟩ v0).setCell ⟨G, 1, none⟩ v1).setCell ⟨G, 2, none⟩ v2).setCell ⟨G, 3, none⟩ v3).setCell ⟨G, 4, none⟩ v4) := (((((h.put J hJ _ _).put G hG _ _).put G hG _ _).put G hG _ _).put G hG _ _).put G hG _ _
theorem VD.same {v x : VD} (h1 : v.k = x.k) (h2 : v.n = x.n) (h3 : v.f = x.f) (h4 : v.s = x.s) (h5 : v.r = x.r) : v = x := by
  cases v; cases x; simp only at h1 h2 h3 h4 h5; subst h1 h2 h3 h4 h5; rfl

theorem oct_bits (v c : Nat) (hc : c < 256) : bits .or .u64 (IntKind.u64.wrap ((v : Int) * 256)) (c : Int) = ((v * 256 % 18446744073709551616 + c : Nat) : Int) := by
  have hw : IntKind.u64.wrap ((v : Int) * 256) = ((v * 256 % 18446744073709551616 : Nat) : Int) := by rw [IntKind.wrap_u64]; omega
  rw [hw, u64_or_nat _ _ (Nat.mod_lt _ (by decide)) (by omega), nat_join 8 _ c (by show v * 256 % 18446744073709551616 % 256 = 0; omega) hc]
theorem bitsL_drop {f i : Nat} (hi : i < 8) : (bitsL f).drop i = byteI f i :: (bitsL f).drop (i + 1) := by
  have hl : i < (bitsL f).length := by simp [bitsL, hi]
  rw [List.drop_eq_getElem_cons hl]
  congr 1
  simp [bitsL]
theorem oct_step {f i : Nat} (hf : f < 18446744073709551616) (hi : i < 8) : f / 2 ^ (64 - 8 * i) * 256 % 18446744073709551616 + (byteI f i).toNat = f / 2 ^ (64 - 8 * (i + 1)) := by
  unfold byteI
  rw [UInt8.toNat_ofNat', show 64 - 8 * i = (56 - 8 * i) + 8 by omega, Nat.pow_add, ← Nat.div_div_eq_div_mul, show 64 - 8 * (i + 1) = 56 - 8 * i by omega]
  have : f / 2 ^ (56 - 8 * i) ≤ f := Nat.div_le_self _ _
  omega

/-- What reading a const gives. -/
def ConR (g : Nat) (a : Option Addr) (n cap p : Nat) (bd : Bool) (bs : List UInt8) (w : World) (e : Ending) (w' : World) : Prop :=
  ∃ (v : VD) (p' : Nat) (bd' : Bool), e = .returned (VVd v) ∧ I64 v.n ∧ v.f < 18446744073709551616 ∧ v.s.size ≤ n ∧ RS w' g a n cap p' bd' ∧ B1 g w w' ∧ p ≤ p' ∧ p' ≤ n ∧ (bd' = false → bd = false ∧ p < p') ∧ (∀ x r0, COk x → bs.drop p = constL x ++ r0 → v = x ∧ bs.drop p' = r0 ∧ bd' = bd)
theorem ConR.intro {g : Nat} {a : Option Addr} {n cap p : Nat} {bd : Bool} {bs : List UInt8} {w : World} {e : Ending} {w' : World} (v : VD) (p' : Nat) (bd' : Bool) (h1 : e = .returned (VVd v)) (h2 : I64 v.n) (h2' : v.f < 18446744073709551616) (h2'' : v.s.size ≤ n) (h3 : RS w' g a n cap p' bd') (h4 : B1 g w w') (h5 : p ≤ p') (h6 : p' ≤ n) (h8 : bd' = false → bd = false ∧ p < p') (h7 : ∀ x r0, COk x → bs.drop p = constL x ++ r0 → v = x ∧ bs.drop p' = r0 ∧ bd' = bd) : ConR g a n cap p bd bs w e w' :=
  ⟨v, p', bd', h1, h2, h2', h2'', h3, h4, h5, h6, h8, h7⟩

set_option maxRecDepth 20000 in
set_option maxHeartbeats 8000000 in
theorem rconst_any (g b off n cap p : Nat) (bd : Bool) (bs : List UInt8) (w : World) (h : RS w g (some ⟨b, off, none⟩) n cap p bd) (hb : RB w g (some ⟨b, off, none⟩) bs) (hn : bs.length = n) (hn2 : n ≤ 1000000) (hcap : n ≤ cap) (hcm : cap ≤ maxLen) (hp : p ≤ n) :
    Calls Tryz.prog 77 #[.pointer (some ⟨g, 0, none⟩)] w (ConR g (some ⟨b, off, none⟩) n cap p bd bs w) := by
  have H0 : Hid (RS w g (some ⟨b, off, none⟩) n cap p bd) := h
  have HN : Hid (bs.length = n) := hn
  have HB : Hid (RB w g (some ⟨b, off, none⟩) bs) := hb
  have HM : Hid (cap ≤ maxLen) := hcm
  have hgw := blk_lt h
  clear h hb hn hcm
  go_enter Tryz.func77, Tryz.ntmps77
  go_wp2_with fail
  have hy := bw1 w (VO 0 0 0 ⟨#[]⟩ 0)
  refine (rbyte_any g _ n cap p bd bs _ (RS.later H0.out hy) (HB.out.b1 (B1.of_below hy)) HN.out hn2 hp).mono ?_
  rintro e w1 ⟨c, p1, bd1, rfl, hc, hr, hk, hq1, hq2, hf, hq⟩
  have HF : Hid (bd1 = false → bd = false ∧ p < p1) := hf
  clear hf
  obtain ⟨G, hG⟩ : ∃ G, G = w.heap.size := ⟨_, rfl⟩
  have HX : Hid (w1.heap[G]? = some (VO 0 0 0 ⟨#[]⟩ 0)) := hk.blk (by rw [hG]; exact blk_new _ _) (by omega)
  have H1 : Hid (RS w1 g (some ⟨b, off, none⟩) n cap p1 bd1) := hr
  have HK : Hid (B1 g w w1) := (B1.of_below hy).trans hk
  have HQ : Hid (∀ u, bs[p]? = some u → c = u.toNat ∧ p1 = p + 1 ∧ bd1 = bd) := hq
  have HG : Hid (w.heap.size ≤ G ∧ G ≠ g) := ⟨by omega, by omega⟩
  rw [← hG]
  clear hr hk hq H0 hy hG hgw
  have x0 : w1.cell? ⟨G, 0, none⟩ = some (.int .i64 0) := (blk_cell HX.out 0).trans rfl
  have x1 : w1.cell? ⟨G, 1, none⟩ = some (.int .i64 0) := (blk_cell HX.out 1).trans rfl
  have x2 : w1.cell? ⟨G, 2, none⟩ = some (.float .f64 0) := (blk_cell HX.out 2).trans rfl
  have x3 : w1.cell? ⟨G, 3, none⟩ = some (.string ⟨#[]⟩) := (blk_cell HX.out 3).trans rfl
  have x4 : w1.cell? ⟨G, 4, none⟩ = some (.int .i64 0) := (blk_cell HX.out 4).trans rfl
  have xz := blk_frozen HX.out
  have hG1 := blk_lt HX.out
  have hg1 := blk_lt H1.out
  by_cases k1 : c = 1 ∨ c = 2 ∨ c = 8
  · have HC : Hid (c = 1 ∨ c = 2 ∨ c = 8) := k1
    have hx := bw1 w1 (VO (c : Int) 0 0 ⟨#[]⟩ 0)
    have HN1 : Hid (Calls _ _ _ _ _) := rnum_any g (some ⟨b, off, none⟩) n cap p1 bd1 bs _ (RS.later H1.out hx) ((HB.out.b1 HK.out).b1 (B1.of_below hx)) HN.out hn2 hq2
    rcases k1 with rfl | rfl | rfl
    all_goals
      go_wp2_with fail
      refine Calls.mono (show Calls _ _ _ _ _ from HN1.out) ?_
      rintro e w2 ⟨z, p2, bd2, rfl, hz, hr, hk, hq3, hq4, hf, hq⟩
      have HF2 : Hid (bd2 = false → bd = false ∧ p < p2) := fun h => ⟨(HF.out (hf h).1).1, by have := (HF.out (hf h).1).2; omega⟩
      clear hf
      obtain ⟨J, hJ⟩ : ∃ J, J = w1.heap.size := ⟨_, rfl⟩
      rw [← hJ]
      have hJG : J ≠ G := by omega
      have hGJ : G ≠ J := by omega
      have HX2 : Hid (w2.heap[G]? = some (VO 0 0 0 ⟨#[]⟩ 0)) := hk.blk (blk_old HX.out _) HG.out.2
      have HY2 : Hid (w2.heap[J]? = some (VO _ 0 0 ⟨#[]⟩ 0)) := hk.blk (by rw [hJ]; exact blk_new _ _) (by omega)
      have H2 : Hid (RS w2 g (some ⟨b, off, none⟩) n cap p2 bd2) := hr
      have HK2 : Hid (B1 g w w2) := (HK.out.trans (B1.of_below hx)).trans hk
      have HJ : Hid (w.heap.size ≤ J ∧ J ≠ g) := ⟨by have := HG.out.1; omega, by omega⟩
      have HQ2 : Hid (∀ x r0, I64 x → bs.drop p1 = numL x ++ r0 → z = x ∧ bs.drop p2 = r0 ∧ bd2 = bd1) := hq
      have HZ : Hid (I64 z) := hz
      clear hr hk hq HK H1 HX hJ x0 x1 x2 x3 x4 xz hz hx
      have x0 : w2.cell? ⟨G, 0, none⟩ = some (.int .i64 0) := (blk_cell HX2.out 0).trans rfl
      have x1 : w2.cell? ⟨G, 1, none⟩ = some (.int .i64 0) := (blk_cell HX2.out 1).trans rfl
      have x2 : w2.cell? ⟨G, 2, none⟩ = some (.float .f64 0) := (blk_cell HX2.out 2).trans rfl
      have x3 : w2.cell? ⟨G, 3, none⟩ = some (.string ⟨#[]⟩) := (blk_cell HX2.out 3).trans rfl
      have x4 : w2.cell? ⟨G, 4, none⟩ = some (.int .i64 0) := (blk_cell HX2.out 4).trans rfl
      have y0 : w2.cell? ⟨J, 0, none⟩ = some (.int .i64 _) := (blk_cell HY2.out 0).trans rfl
      have y1 : w2.cell? ⟨J, 1, none⟩ = some (.int .i64 0) := (blk_cell HY2.out 1).trans rfl
      have y2 : w2.cell? ⟨J, 2, none⟩ = some (.float .f64 0) := (blk_cell HY2.out 2).trans rfl
      have y3 : w2.cell? ⟨J, 3, none⟩ = some (.string ⟨#[]⟩) := (blk_cell HY2.out 3).trans rfl
      have y4 : w2.cell? ⟨J, 4, none⟩ = some (.int .i64 0) := (blk_cell HY2.out 4).trans rfl
      have xz := blk_frozen HX2.out
      have yz := blk_frozen HY2.out
      go_wp2_with fail
      refine bodyPost_ret (v := VV _ z 0 ⟨#[]⟩ 0) (by simp [results, Tryz.results77, go_sem, x0, x1, x2, x3, x4]; rfl) rfl ?_
      refine ConR.intro ⟨_, z, 0, ⟨#[]⟩, 0⟩ p2 bd2 rfl HZ.out (by show 0 < 18446744073709551616; omega) (by show 0 ≤ n; omega) (H2.out.six HJ.out.2 HG.out.2 _ _ _ _ _ _ _) (HK2.out.six HJ.out.1 HG.out.1 _ _ _ _ _ _ _) (by omega) hq4 HF2.out (fun x r0 hx hd => ?_)
      obtain ⟨h1, h2, h3⟩ := hx.is hd HQ.out
      rw [if_pos (by rw [h1]; simp)] at h3
      obtain ⟨h4, h5, h6⟩ := HQ2.out x.n r0 hx.n h3
      exact ⟨VD.same h1.symm h4 (hx.f0 (by rw [h1]; simp)).symm (hx.s0 (by rw [h1]; simp)).symm hx.r.symm, h5, by rw [h6, h2]⟩
  have e1 : ((c : Int) == 1) = false := by simp; omega
  have e2 : ((c : Int) == 2) = false := by simp; omega
  have e8 : ((c : Int) == 8) = false := by simp; omega
  have HC : Hid (¬ (c = 1 ∨ c = 2 ∨ c = 8)) := k1
  clear k1
  have hx := bw1 w1 (VO (c : Int) 0 0 ⟨#[]⟩ 0)
  by_cases k4 : c = 4
  · subst k4
    have HN1 : Hid (Calls _ _ _ _ _) := rtext_any g b off n cap p1 bd1 bs _ (RS.later H1.out hx) ((HB.out.b1 HK.out).b1 (B1.of_below hx)) HN.out hn2 hcap HM.out hq2
    go_wp2_with fail
    refine Calls.mono (show Calls _ _ _ _ _ from HN1.out) ?_
    rintro e w2 ⟨z, p2, bd2, rfl, hz, hr, hk, hq3, hq4, hf, hq⟩
    have HF2 : Hid (bd2 = false → bd = false ∧ p < p2) := fun h => ⟨(HF.out (hf h).1).1, by have := (HF.out (hf h).1).2; omega⟩
    clear hf
    obtain ⟨J, hJ⟩ : ∃ J, J = w1.heap.size := ⟨_, rfl⟩
    rw [← hJ]
    have hJG : J ≠ G := by omega
    have hGJ : G ≠ J := by omega
    have HX2 : Hid (w2.heap[G]? = some (VO 0 0 0 ⟨#[]⟩ 0)) := hk.blk (blk_old HX.out _) HG.out.2
    have HY2 : Hid (w2.heap[J]? = some (VO _ 0 0 ⟨#[]⟩ 0)) := hk.blk (by rw [hJ]; exact blk_new _ _) (by omega)
    have H2 : Hid (RS w2 g (some ⟨b, off, none⟩) n cap p2 bd2) := hr
    have HK2 : Hid (B1 g w w2) := (HK.out.trans (B1.of_below hx)).trans hk
    have HJ : Hid (w.heap.size ≤ J ∧ J ≠ g) := ⟨by have := HG.out.1; omega, by omega⟩
    have HQ2 : Hid (∀ t r0, bs.drop p1 = textL t ++ r0 → z = t ∧ bs.drop p2 = r0 ∧ bd2 = bd1) := hq
    have HZ : Hid (z.size ≤ n) := hz
    clear hr hk hq HK H1 HX hJ x0 x1 x2 x3 x4 xz hz hx HN1 e1 e2 e8
    have x0 : w2.cell? ⟨G, 0, none⟩ = some (.int .i64 0) := (blk_cell HX2.out 0).trans rfl
    have x1 : w2.cell? ⟨G, 1, none⟩ = some (.int .i64 0) := (blk_cell HX2.out 1).trans rfl
    have x2 : w2.cell? ⟨G, 2, none⟩ = some (.float .f64 0) := (blk_cell HX2.out 2).trans rfl
    have x3 : w2.cell? ⟨G, 3, none⟩ = some (.string ⟨#[]⟩) := (blk_cell HX2.out 3).trans rfl
    have x4 : w2.cell? ⟨G, 4, none⟩ = some (.int .i64 0) := (blk_cell HX2.out 4).trans rfl
    have y0 : w2.cell? ⟨J, 0, none⟩ = some (.int .i64 _) := (blk_cell HY2.out 0).trans rfl
    have y1 : w2.cell? ⟨J, 1, none⟩ = some (.int .i64 0) := (blk_cell HY2.out 1).trans rfl
    have y2 : w2.cell? ⟨J, 2, none⟩ = some (.float .f64 0) := (blk_cell HY2.out 2).trans rfl
    have y3 : w2.cell? ⟨J, 3, none⟩ = some (.string ⟨#[]⟩) := (blk_cell HY2.out 3).trans rfl
    have y4 : w2.cell? ⟨J, 4, none⟩ = some (.int .i64 0) := (blk_cell HY2.out 4).trans rfl
    have xz := blk_frozen HX2.out
    have yz := blk_frozen HY2.out
    go_wp2_with fail
    refine bodyPost_ret (v := VV _ 0 0 z 0) (by simp [results, Tryz.results77, go_sem, x0, x1, x2, x3, x4]; rfl) rfl ?_
    refine ConR.intro ⟨_, 0, 0, z, 0⟩ p2 bd2 rfl (show I64 0 from ⟨by omega, by omega⟩) (by show 0 < 18446744073709551616; omega) HZ.out (H2.out.six HJ.out.2 HG.out.2 _ _ _ _ _ _ _) (HK2.out.six HJ.out.1 HG.out.1 _ _ _ _ _ _ _) (by omega) hq4 HF2.out (fun x r0 hx hd => ?_)
    obtain ⟨h1, h2, h3⟩ := hx.is hd HQ.out
    rw [if_neg (by rw [h1]; simp), if_pos (by rw [h1]; simp)] at h3
    obtain ⟨h4, h5, h6⟩ := HQ2.out x.s r0 h3
    exact ⟨VD.same h1.symm (hx.n0 (by rw [h1]; simp)).symm (hx.f0 (by rw [h1]; simp)).symm h4 hx.r.symm, h5, by rw [h6, h2]⟩
  have e4 : ((c : Int) == 4) = false := by simp; omega
  by_cases k3 : c = 3
  · subst k3
    obtain ⟨J, hJ⟩ : ∃ J, J = w1.heap.size := ⟨_, rfl⟩
    have hJG : J ≠ G := by omega
    have hGJ : G ≠ J := by omega
    have HJ : Hid (w.heap.size ≤ J ∧ J ≠ g) := ⟨by have := HG.out.1; omega, by omega⟩
    have HX2 : Hid ((w1.alloc (VO 3 0 0 ⟨#[]⟩ 0)).heap[G]? = some (VO 0 0 0 ⟨#[]⟩ 0)) := blk_old HX.out _
    have HY2 : Hid ((w1.alloc (VO 3 0 0 ⟨#[]⟩ 0)).heap[J]? = some (VO 3 0 0 ⟨#[]⟩ 0)) := by rw [hJ]; exact blk_new _ _
    have HK2 : Hid (B1 g w (w1.alloc (VO 3 0 0 ⟨#[]⟩ 0))) := HK.out.trans (B1.of_below hx)
    have H2 : Hid (RS (w1.alloc (VO 3 0 0 ⟨#[]⟩ 0)) g (some ⟨b, off, none⟩) n cap p1 bd1) := RS.later H1.out hx
    clear hx
    go_wp2_with fail
    clear x0 x1 x2 x3 x4 xz e1 e2 e8 e4
    go_loopw [4, 5] (fun uu ii wr => ∃ (i v p2 : Nat) (bd2 : Bool), i ≤ 8 ∧ ii = .int .i64 (i : Int) ∧ uu = .int .u64 (v : Int) ∧ v < 18446744073709551616 ∧ p1 ≤ p2 ∧ p2 ≤ n ∧ Hid (RS wr g (some ⟨b, off, none⟩) n cap p2 bd2) ∧ Hid (B1 g w wr) ∧ Hid (wr.heap[G]? = some (VO 0 0 0 ⟨#[]⟩ 0)) ∧ Hid (wr.heap[J]? = some (VO 3 0 0 ⟨#[]⟩ 0)) ∧ Hid (bd2 = false → bd = false ∧ p < p2) ∧ Hid (∀ f r0, f < 18446744073709551616 → bs.drop p1 = bitsL f ++ r0 → bs.drop p2 = (bitsL f).drop i ++ r0 ∧ v = f / 2 ^ (64 - 8 * i) ∧ bd2 = bd1)) (fun _ ii _ => 8 - (intOf ii).toNat)
    case atStart => exact ⟨0, 0, p1, bd1, by omega, rfl, rfl, by omega, Nat.le_refl _, hq2, H2, HK2, HX2, HY2, HF, fun f r0 hf hd => ⟨hd, (Nat.div_eq_of_lt hf).symm, rfl⟩⟩
    case round =>
      clear H1 H2 HK HK2 HX HX2 HY2
      obtain ⟨i, v, p2, bd2, hi, rfl, rfl, hv, hp2, hp3, H2, HK2, HX2, HY2, HF2, HI⟩ := hrel
      by_cases k5 : i < 8
      · go_wp2_with fail
        refine (rbyte_any g _ n cap p2 bd2 bs wr H2.out (HB.out.b1 HK2.out) HN.out hn2 hp3).mono ?_
        rintro e w3 ⟨c, p3, bd3, rfl, hc, hr, hk, hq3, hq4, hf, hq⟩
        have HF3 : Hid (bd3 = false → bd = false ∧ p < p3) := fun h => ⟨(HF2.out (hf h).1).1, by have := (HF2.out (hf h).1).2; omega⟩
        clear hf HF2
        have H3 : Hid (RS w3 g (some ⟨b, off, none⟩) n cap p3 bd3) := hr
        have HK3 : Hid (B1 g w w3) := HK2.out.trans hk
        have HX3 : Hid (w3.heap[G]? = some (VO 0 0 0 ⟨#[]⟩ 0)) := hk.blk HX2.out HG.out.2
        have HY3 : Hid (w3.heap[J]? = some (VO 3 0 0 ⟨#[]⟩ 0)) := hk.blk HY2.out HJ.out.2
        have HQ3 : Hid (∀ u, bs[p2]? = some u → c = u.toNat ∧ p3 = p2 + 1 ∧ bd3 = bd2) := hq
        clear hr hk hq H2 HK2 HX2 HY2
        obtain ⟨V, hV⟩ : ∃ V, V = v * 256 % 18446744073709551616 + c := ⟨_, rfl⟩
        have ob := oct_bits v c hc
        rw [← hV] at ob
        have HFX : Hid (∀ f r0, f < 18446744073709551616 → bs.drop p1 = bitsL f ++ r0 → bs.drop p3 = (bitsL f).drop (i + 1) ++ r0 ∧ V = f / 2 ^ (64 - 8 * (i + 1)) ∧ bd3 = bd1) := by
          intro f r0 hf hd
          obtain ⟨h1, h2, h3⟩ := HI.out f r0 hf hd
          rw [bitsL_drop k5, List.cons_append] at h1
          obtain ⟨h4, h5⟩ := drop_head h1
          obtain ⟨h6, h7, h8⟩ := HQ3.out _ h4
          refine ⟨by rw [h7]; exact h5, ?_, by rw [h8, h3]⟩
          rw [hV, h2, h6]
          exact oct_step hf k5
        have hV2 : V < 18446744073709551616 := by omega
        clear hV HI HQ3
        go_wp2_with fail
        go_roundw
        case rel => exact ⟨i + 1, V, p3, bd3, by omega, by go_num, rfl, hV2, by omega, hq4, H3, HK3, HX3, HY3, HF3, HFX⟩
        case measure => simp [intOf]; omega
      · obtain rfl : i = 8 := by omega
        subst hJ
        obtain ⟨J, hJ⟩ : ∃ J, J = w1.heap.size := ⟨_, rfl⟩
        rw [← hJ] at hJG hGJ HJ HY2
        go_wp2_with fail
        refine (lf_any v wr hv).mono ?_
        rintro e w3 ⟨z, rfl, hz, hzx, hk⟩
        rw [← hJ]
        have H3 : Hid (RS w3 g (some ⟨b, off, none⟩) n cap p2 bd2) := RS.later H2.out hk
        have HK3 : Hid (B1 g w w3) := HK2.out.trans (B1.of_below hk)
        have HX3 : Hid (w3.heap[G]? = some (VO 0 0 0 ⟨#[]⟩ 0)) := blk_later hk HX2.out
        have HY3 : Hid (w3.heap[J]? = some (VO 3 0 0 ⟨#[]⟩ 0)) := blk_later hk HY2.out
        have HZX : Hid (nanB v = false → z = v) := hzx
        have HZ : Hid (z < 18446744073709551616) := hz
        clear hk hzx hz H2 HK2 HX2 HY2 hJ
        have x0 : w3.cell? ⟨G, 0, none⟩ = some (.int .i64 0) := (blk_cell HX3.out 0).trans rfl
        have x1 : w3.cell? ⟨G, 1, none⟩ = some (.int .i64 0) := (blk_cell HX3.out 1).trans rfl
        have x2 : w3.cell? ⟨G, 2, none⟩ = some (.float .f64 0) := (blk_cell HX3.out 2).trans rfl
        have x3 : w3.cell? ⟨G, 3, none⟩ = some (.string ⟨#[]⟩) := (blk_cell HX3.out 3).trans rfl
        have x4 : w3.cell? ⟨G, 4, none⟩ = some (.int .i64 0) := (blk_cell HX3.out 4).trans rfl
        have y0 : w3.cell? ⟨J, 0, none⟩ = some (.int .i64 3) := (blk_cell HY3.out 0).trans rfl
        have y1 : w3.cell? ⟨J, 1, none⟩ = some (.int .i64 0) := (blk_cell HY3.out 1).trans rfl
        have y2 : w3.cell? ⟨J, 2, none⟩ = some (.float .f64 0) := (blk_cell HY3.out 2).trans rfl
        have y3 : w3.cell? ⟨J, 3, none⟩ = some (.string ⟨#[]⟩) := (blk_cell HY3.out 3).trans rfl
        have y4 : w3.cell? ⟨J, 4, none⟩ = some (.int .i64 0) := (blk_cell HY3.out 4).trans rfl
        have xz := blk_frozen HX3.out
        have yz := blk_frozen HY3.out
        go_wp2_with fail
        refine bodyPost_ret (v := VV 3 0 z ⟨#[]⟩ 0) (by simp [results, Tryz.results77, go_sem, x0, x1, x2, x3, x4]) rfl ?_
        refine ConR.intro ⟨3, 0, z, ⟨#[]⟩, 0⟩ p2 bd2 rfl (show I64 0 from ⟨by omega, by omega⟩) HZ.out (by show 0 ≤ n; omega) (H3.out.six HJ.out.2 HG.out.2 _ _ _ _ _ _ _) (HK3.out.six HJ.out.1 HG.out.1 _ _ _ _ _ _ _) (by omega) hp3 HF2.out (fun x r0 hx hd => ?_)
        obtain ⟨h1, h2, h3⟩ := hx.is hd HQ.out
        rw [if_neg (by rw [h1]; simp), if_neg (by rw [h1]; simp), if_pos (by rw [h1]; simp)] at h3
        obtain ⟨h4, h5, h6⟩ := HI.out x.f r0 hx.f h3
        have h7 : v = x.f := by rw [h5]; show x.f / 1 = x.f; rw [Nat.div_one]
        exact ⟨VD.same h1.symm (hx.n0 (by rw [h1]; simp)).symm (by rw [← h7]; exact HZX.out (by rw [h7]; exact hx.nan (by rw [h1]; rfl))) (hx.s0 (by rw [h1]; simp)).symm hx.r.symm, by rw [h4]; simp [bitsL], by rw [h6, h2]⟩
  have e3 : ((c : Int) == 3) = false := by simp; omega
  have hJG : w1.heap.size ≠ G := by omega
  have hGJ : G ≠ w1.heap.size := by omega
  clear hx
  go_wp2_with fail
  refine bodyPost_ret (v := VV (c : Int) 0 0 ⟨#[]⟩ 0) (by simp [results, Tryz.results77, go_sem, x0, x1, x2, x3, x4, hGJ, hG1]) rfl ?_
  refine ConR.intro ⟨_, 0, 0, ⟨#[]⟩, 0⟩ p1 bd1 rfl (show I64 0 from ⟨by omega, by omega⟩) (by show 0 < 18446744073709551616; omega) (by show 0 ≤ n; omega) (RS.later (((((H1.out.put G HG.out.2 _ _).put G HG.out.2 _ _).put G HG.out.2 _ _).put G HG.out.2 _ _).put G HG.out.2 _ _) (bw1 _ _)) ((((((HK.out.put G HG.out.1 _ _).put G HG.out.1 _ _).put G HG.out.1 _ _).put G HG.out.1 _ _).put G HG.out.1 _ _).trans (B1.of_below (bw1 _ _))) hq1 hq2 HF.out (fun x r0 hx hd => ?_)
  obtain ⟨h1, h2, h3⟩ := hx.is hd HQ.out
  have hc1 := HC.out
  rw [if_neg (by rw [h1]; omega), if_neg (by rw [h1]; omega), if_neg (by rw [h1]; omega), List.nil_append] at h3
  exact ⟨VD.same h1.symm (hx.n0 (by rw [h1]; omega)).symm (hx.f0 (by rw [h1]; omega)).symm (hx.s0 (by rw [h1]; omega)).symm hx.r.symm, h3, h2⟩
end Go.Proofs.YtfkeklndcjkgcaaGreatDoor

/-
  OWN WORK. Lists that a reader fills: rows of one's own, whatever the element.
-/
namespace Go.Proofs.YtfkeklndcjkgcaaGreatDoor
open Go.RowKit
set_option linter.unusedVariables false
set_option linter.unusedSimpArgs false

/-- A list in a block of its own, not below a base. -/
def ORow {α : Type} (w : World) (B : Nat) (et : TypeId) (k : Nat) (cells : α → List Value) (sv : Value) (xs : List α) : Prop := w.ownsRow B et k sv xs.length (xs.flatMap cells)
theorem ORow.nil {α : Type} (w : World) (B : Nat) (et : TypeId) (k : Nat) (cells : α → List Value) : ORow w B et k cells (.slice none 0 0) [] := owns_nil _ _ _ _
theorem ORow.val {α : Type} {w : World} {B : Nat} {et : TypeId} {k : Nat} {cells : α → List Value} {sv : Value} {xs : List α} (h : ORow w B et k cells sv xs) : ∃ a cap, sv = .slice a xs.length cap := by
  rcases h.2 with ⟨rfl, h0⟩ | ⟨g, cap, cur, rfl, _⟩
  · exact ⟨none, 0, by rw [h0]⟩
  · exact ⟨_, _, rfl⟩
/-- What keeps the row's block keeps the row. -/
theorem ORow.keep {α : Type} {w w' : World} {B : Nat} {et : TypeId} {k : Nat} {cells : α → List Value} {sv : Value} {xs : List α} (h : ORow w B et k cells sv xs) (hk : ∀ j arr, B ≤ j → w.heap[j]? = some (.cells arr et (0, 0)) → w'.heap[j]? = w.heap[j]?) : ORow w' B et k cells sv xs := by
  obtain ⟨h1, h2⟩ := h
  refine ⟨h1, ?_⟩
  rcases h2 with h2 | ⟨g, cap, cur, e1, e2, e3, e4⟩
  · exact .inl h2
  · exact .inr ⟨g, cap, cur, e1, e2, (hk g cur e2 e3).trans e3, e4⟩
theorem ORow.later {α : Type} {w w' : World} {B : Nat} {et : TypeId} {k : Nat} {cells : α → List Value} {sv : Value} {xs : List α} (h : ORow w B et k cells sv xs) (hb : Below w.heap.size w w') : ORow w' B et k cells sv xs := owns_later hb h
theorem ORow.b1 {α : Type} {w w' : World} {B g : Nat} {et : TypeId} {k : Nat} {cells : α → List Value} {sv : Value} {xs : List α} (h : ORow w B et k cells sv xs) (hg : g < B) (hb : B1 g w w') : ORow w' B et k cells sv xs :=
  h.keep fun j arr hj he => hb.block j (blk_lt he) (by omega)
/-- A write into a block of another kind. -/
theorem ORow.put {α : Type} {w : World} {B : Nat} {et : TypeId} {k : Nat} {cells : α → List Value} {sv : Value} {xs : List α} (h : ORow w B et k cells sv xs) {q : Nat} {arr : Array Value} {t : TypeId} {fz : Nat × Nat} (hq : w.heap[q]? = some (.cells arr t fz)) (ht : t ≠ et) (j : Nat) (v : Value) : ORow (w.setCell ⟨q, j, none⟩ v) B et k cells sv xs :=
  h.keep fun i ar hi he => Below.heap_setCell _ _ _ _ (by
    show i ≠ q
    intro e
    rw [e, hq] at he
    cases he
    exact ht rfl)
/-- Behind an append: blocks of another kind are as they were. -/
theorem ORow.other {α : Type} {w w' : World} {B : Nat} {et : TypeId} {k : Nat} {cells : α → List Value} {sv : Value} {xs : List α} (h : ORow w B et k cells sv xs) (hg : w.grownBy w' sv.ownBlock) {q : Nat} {arr : Array Value} {t : TypeId} {fz : Nat × Nat} (hq : w.heap[q]? = some (.cells arr t fz)) (ht : t ≠ et) : w'.heap[q]? = some (.cells arr t fz) := by
  refine (hg.block q (blk_lt hq) ?_).trans hq
  intro e
  rcases h.2 with ⟨rfl, _⟩ | ⟨g, cap, cur, rfl, _, e3, _⟩
  · cases e
  · cases e
    rw [hq] at e3
    cases e3
    exact ht rfl
theorem ORow.row2 {α β : Type} {w w' : World} {B B' : Nat} {et et' : TypeId} {k k' : Nat} {cells : α → List Value} {cells' : β → List Value} {sv sv' : Value} {xs : List α} {ys : List β} (h : ORow w B et k cells sv xs) (hg : w.grownBy w' sv.ownBlock) (h' : ORow w B' et' k' cells' sv' ys) (ht : et' ≠ et) : ORow w' B' et' k' cells' sv' ys :=
  h'.keep fun j arr _ he => (h.other hg he ht).trans he.symm
/-- Behind an append: what was there before is as it was, but for one block. -/
theorem ORow.first {α : Type} {w0 w w' : World} {B g : Nat} {et : TypeId} {k : Nat} {cells : α → List Value} {sv : Value} {xs : List α} (h : ORow w B et k cells sv xs) (hb : B1 g w0 w) (hB : w0.heap.size ≤ B) (hg : w.grownBy w' sv.ownBlock) : B1 g w0 w' :=
  ⟨hg.os.trans hb.os, hg.tape.trans hb.tape, hg.output.trans hb.output, Nat.le_trans hb.size hg.size, fun j hj hn => (hg.block j (Nat.lt_of_lt_of_le hj hb.size) (fun he => by have := owns_ge h he.symm; omega)).trans (hb.block j hj hn)⟩
theorem ORow.app {α : Type} {w : World} {B : Nat} {et : TypeId} {k : Nat} {cells : α → List Value} {sv : Value} {xs : List α} (st : TypeId) (by' : Nat) (hu : Tryz.prog.underlying st = some (.slice et)) (hc : (Tryz.prog.info? et).map (fun i => (i.zero.map (fun z => z.cells.size), i.size, i.bytes)) = some (some k, k, by')) (hk : 0 < k) (hby : by' ≤ 1000) (h : ORow w B et k cells sv xs) (x : α) (nb : Nat) (ty : TypeId) (hn : w.heap[nb]? = some (.cells (cells x).toArray et)) (hl : (cells x).length = k) (h1 : ∀ u ∈ cells x, u.oneCell' = true) (hlen : xs.length ≤ 2000000) (hb : B ≤ w.heap.size) :
    ∃ g' cap' w', (Builtin.append_ #[st, st] ty #[sv, .slice (some ⟨nb, 0, none⟩) 1 1]).run Tryz.prog w = .ok (.slice (some ⟨g', 0, none⟩) (xs.length + 1) cap') w' ∧ ORow w' B et k cells (.slice (some ⟨g', 0, none⟩) (xs.length + 1) cap') (xs ++ [x]) ∧ w.grownBy w' sv.ownBlock := by
  obtain ⟨g', cap', w', a1, a2, a3⟩ := app_gen st et k by' hu hc hk hby B w sv xs.length (xs.flatMap cells) (cells x) nb ty h hn hl h1 hlen hb
  refine ⟨g', cap', w', a1, ?_, a3⟩
  unfold ORow
  rw [List.length_append, List.flatMap_append]
  simpa using a2

theorem flat_at {α : Type} (cells : α → List Value) (k : Nat) : ∀ (xs : List α) (i j : Nat) (x : α) (v : Value), (∀ y ∈ xs, (cells y).length = k) → xs[i]? = some x → (cells x)[j]? = some v → (xs.flatMap cells)[i * k + j]? = some v
  | [], i, j, x, v, _, hx, _ => by simp at hx
  | y :: ys, 0, j, x, v, hk, hx, hv => by
    obtain rfl : y = x := by simpa using hx
    have hj := (List.getElem?_eq_some_iff.1 hv).1
    rw [Nat.zero_mul, Nat.zero_add, List.flatMap_cons, List.getElem?_append_left hj]
    exact hv
  | y :: ys, i + 1, j, x, v, hk, hx, hv => by
    have hy := hk y (by simp)
    rw [List.flatMap_cons, List.getElem?_append_right (by rw [hy, Nat.add_mul, Nat.one_mul]; omega), hy, show (i + 1) * k + j - k = i * k + j by rw [Nat.add_mul, Nat.one_mul]; omega]
    exact flat_at cells k ys i j x v (fun z hz => hk z (by simp [hz])) (by simpa using hx) hv
/-- A row of one's own lies in memory. -/
theorem ORow.lies {α : Type} {w : World} {B : Nat} {et : TypeId} {k : Nat} {cells : α → List Value} {sv : Value} {xs : List α} (h : ORow w B et k cells sv xs) (hk : ∀ y, (cells y).length = k) : ∃ a cap, sv = .slice a xs.length cap ∧ SlA w k cells a xs := by
  rcases h with ⟨hl, ⟨rfl, h0⟩ | ⟨g, cap, cur, rfl, e2, e3, e4⟩⟩
  · have : xs = [] := List.length_eq_zero_iff.1 h0
    subst this
    exact ⟨none, 0, rfl, SlA.nil _ _ _ _⟩
  · refine ⟨_, cap, rfl, fun i x hi => ⟨g, 0, rfl, blk_lt e3, fun j v hv => ?_⟩⟩
    have hf := flat_at cells k xs i j x v (fun y _ => hk y) hi hv
    have hlt := (List.getElem?_eq_some_iff.1 hf).1
    rw [← e4.2.2.2, List.getElem?_take] at hf
    rw [blk_cell e3, Nat.zero_add]
    split at hf
    · simpa using hf
    · cases hf
end Go.Proofs.YtfkeklndcjkgcaaGreatDoor

/-
  OWN WORK. The specification's reader: what is known of a proto under way.
-/
namespace Go.Proofs.YtfkeklndcjkgcaaGreatDoor
open Go.RowKit
set_option linter.unusedVariables false
set_option linter.unusedSimpArgs false

def fdZ : FD := ⟨⟨#[]⟩, 0, 0, false, 0, [], [], [], []⟩
/-- A proto under way: the reader's block g, the result's block G, the proto's block J, its lists in blocks of their own. -/
structure PW (w0 : World) (g : Nat) (a : Option Addr) (n cap G J : Nat) (d : FD) (su sc si sn : Value) (p : Nat) (bd : Bool) (w : World) : Prop where
  rs : RS w g a n cap p bd
  b1 : B1 g w0 w
  hG : w.heap[G]? = some (POn fdZ (.slice none 0 0) (.slice none 0 0) (.slice none 0 0) (.slice none 0 0))
  hJ : w.heap[J]? = some (POn d su sc si sn)
  lg : g < w0.heap.size
  lG : w0.heap.size ≤ G
  lJ : w0.heap.size ≤ J
  ne : G ≠ J
  ru : ORow w w0.heap.size 110 2 UD.cells su d.ups
  rc : ORow w w0.heap.size 113 5 VD.cells sc d.consts
  ri : ORow w w0.heap.size 52 5 ID.cells si d.ins
  rn : ORow w w0.heap.size 116 4 ND.cells sn d.named
theorem PW.step {w0 : World} {g : Nat} {a : Option Addr} {n cap G J : Nat} {d : FD} {su sc si sn : Value} {p : Nat} {bd : Bool} {w w' : World} {p' : Nat} {bd' : Bool} (h : PW w0 g a n cap G J d su sc si sn p bd w) (hb : B1 g w w') (hr : RS w' g a n cap p' bd') : PW w0 g a n cap G J d su sc si sn p' bd' w' :=
  ⟨hr, h.b1.trans hb, hb.blk h.hG (by have := h.lg; have := h.lG; omega), hb.blk h.hJ (by have := h.lg; have := h.lJ; omega), h.lg, h.lG, h.lJ, h.ne, h.ru.b1 h.lg hb, h.rc.b1 h.lg hb, h.ri.b1 h.lg hb, h.rn.b1 h.lg hb⟩
theorem PW.later {w0 : World} {g : Nat} {a : Option Addr} {n cap G J : Nat} {d : FD} {su sc si sn : Value} {p : Nat} {bd : Bool} {w w' : World} (h : PW w0 g a n cap G J d su sc si sn p bd w) (hb : Below w.heap.size w w') : PW w0 g a n cap G J d su sc si sn p bd w' := h.step (B1.of_below hb) (RS.later h.rs hb)
/-- A field is set, the lists are as they were. -/
theorem PW.fld {w0 : World} {g : Nat} {a : Option Addr} {n cap G J : Nat} {d : FD} {su sc si sn : Value} {p : Nat} {bd : Bool} {w : World} (h : PW w0 g a n cap G J d su sc si sn p bd w) (j : Nat) (v : Value) (d' : FD) (hu : d'.ups = d.ups) (hc : d'.consts = d.consts) (hi : d'.ins = d.ins) (hn : d'.named = d.named) (he : (w.setCell ⟨J, j, none⟩ v).heap[J]? = some (POn d' su sc si sn)) : PW w0 g a n cap G J d' su sc si sn p bd (w.setCell ⟨J, j, none⟩ v) :=
  ⟨h.rs.put J (by have := h.lg; have := h.lJ; omega) _ _, h.b1.put J h.lJ _ _, blk_other h.hG h.ne.symm _ _, he, h.lg, h.lG, h.lJ, h.ne, by rw [hu]; exact h.ru.put h.hJ (by decide) _ _, by rw [hc]; exact h.rc.put h.hJ (by decide) _ _, by rw [hi]; exact h.ri.put h.hJ (by decide) _ _, by rw [hn]; exact h.rn.put h.hJ (by decide) _ _⟩
/-- One element more: ups. -/
theorem PW.app_u {w0 : World} {g : Nat} {a : Option Addr} {n cap G J : Nat} {d : FD} {su sc si sn : Value} {p : Nat} {bd : Bool} {w : World} (h : PW w0 g a n cap G J d su sc si sn p bd w) (x : UD) (nb : Nat) (ty : TypeId) (hn : w.heap[nb]? = some (.cells (UD.cells x).toArray 110)) (hlen : d.ups.length ≤ 2000000) :
    ∃ g' cap' w', Hid ((Builtin.append_ #[45, 45] ty #[su, .slice (some ⟨nb, 0, none⟩) 1 1]).run Tryz.prog w = .ok (.slice (some ⟨g', 0, none⟩) (d.ups.length + 1) cap') w') ∧ w'.heap[J]? = some (POn d su sc si sn) ∧ Hid (PW w0 g a n cap G J { d with ups := d.ups ++ [x] } (.slice (some ⟨g', 0, none⟩) (d.ups.length + 1) cap') sc si sn p bd (w'.setCell ⟨J, 5, none⟩ (.slice (some ⟨g', 0, none⟩) (d.ups.length + 1) cap'))) := by
  obtain ⟨g', cap', w', h1, hr, hg⟩ := h.ru.app 45 16 (by kernel_rfl) (by kernel_rfl) (by decide) (by decide) x nb ty hn rfl (by cases x; simp [UD.cells, Value.oneCell']) hlen h.b1.size
  have hJ' := h.ru.other hg h.hJ (by decide)
  refine ⟨g', cap', w', h1, hJ', ?_⟩
  refine ⟨RS.put (h.ru.other hg h.rs (by decide)) J (by have := h.lg; have := h.lJ; omega) _ _, (h.ru.first h.b1 (Nat.le_refl _) hg).put J h.lJ _ _, blk_other (h.ru.other hg h.hG (by decide)) h.ne.symm _ _, blk_set hJ' _ _, h.lg, h.lG, h.lJ, h.ne, hr.put (h.ru.other hg h.hJ (by decide)) (by decide) _ _, (h.ru.row2 hg h.rc (by decide)).put (h.ru.other hg h.hJ (by decide)) (by decide) _ _, (h.ru.row2 hg h.ri (by decide)).put (h.ru.other hg h.hJ (by decide)) (by decide) _ _, (h.ru.row2 hg h.rn (by decide)).put (h.ru.other hg h.hJ (by decide)) (by decide) _ _⟩
/-- One element more: consts. -/
theorem PW.app_c {w0 : World} {g : Nat} {a : Option Addr} {n cap G J : Nat} {d : FD} {su sc si sn : Value} {p : Nat} {bd : Bool} {w : World} (h : PW w0 g a n cap G J d su sc si sn p bd w) (x : VD) (nb : Nat) (ty : TypeId) (hn : w.heap[nb]? = some (.cells (VD.cells x).toArray 113)) (hlen : d.consts.length ≤ 2000000) :
    ∃ g' cap' w', Hid ((Builtin.append_ #[46, 46] ty #[sc, .slice (some ⟨nb, 0, none⟩) 1 1]).run Tryz.prog w = .ok (.slice (some ⟨g', 0, none⟩) (d.consts.length + 1) cap') w') ∧ w'.heap[J]? = some (POn d su sc si sn) ∧ Hid (PW w0 g a n cap G J { d with consts := d.consts ++ [x] } su (.slice (some ⟨g', 0, none⟩) (d.consts.length + 1) cap') si sn p bd (w'.setCell ⟨J, 6, none⟩ (.slice (some ⟨g', 0, none⟩) (d.consts.length + 1) cap'))) := by
  obtain ⟨g', cap', w', h1, hr, hg⟩ := h.rc.app 46 48 (by kernel_rfl) (by kernel_rfl) (by decide) (by decide) x nb ty hn rfl (by cases x; simp [VD.cells, Value.oneCell']) hlen h.b1.size
  have hJ' := h.rc.other hg h.hJ (by decide)
  refine ⟨g', cap', w', h1, hJ', ?_⟩
  refine ⟨RS.put (h.rc.other hg h.rs (by decide)) J (by have := h.lg; have := h.lJ; omega) _ _, (h.rc.first h.b1 (Nat.le_refl _) hg).put J h.lJ _ _, blk_other (h.rc.other hg h.hG (by decide)) h.ne.symm _ _, blk_set hJ' _ _, h.lg, h.lG, h.lJ, h.ne, (h.rc.row2 hg h.ru (by decide)).put (h.rc.other hg h.hJ (by decide)) (by decide) _ _, hr.put (h.rc.other hg h.hJ (by decide)) (by decide) _ _, (h.rc.row2 hg h.ri (by decide)).put (h.rc.other hg h.hJ (by decide)) (by decide) _ _, (h.rc.row2 hg h.rn (by decide)).put (h.rc.other hg h.hJ (by decide)) (by decide) _ _⟩
/-- One element more: ins. -/
theorem PW.app_i {w0 : World} {g : Nat} {a : Option Addr} {n cap G J : Nat} {d : FD} {su sc si sn : Value} {p : Nat} {bd : Bool} {w : World} (h : PW w0 g a n cap G J d su sc si sn p bd w) (x : ID) (nb : Nat) (ty : TypeId) (hn : w.heap[nb]? = some (.cells (ID.cells x).toArray 52)) (hlen : d.ins.length ≤ 2000000) :
    ∃ g' cap' w', Hid ((Builtin.append_ #[47, 47] ty #[si, .slice (some ⟨nb, 0, none⟩) 1 1]).run Tryz.prog w = .ok (.slice (some ⟨g', 0, none⟩) (d.ins.length + 1) cap') w') ∧ w'.heap[J]? = some (POn d su sc si sn) ∧ Hid (PW w0 g a n cap G J { d with ins := d.ins ++ [x] } su sc (.slice (some ⟨g', 0, none⟩) (d.ins.length + 1) cap') sn p bd (w'.setCell ⟨J, 7, none⟩ (.slice (some ⟨g', 0, none⟩) (d.ins.length + 1) cap'))) := by
  obtain ⟨g', cap', w', h1, hr, hg⟩ := h.ri.app 47 40 (by kernel_rfl) (by kernel_rfl) (by decide) (by decide) x nb ty hn rfl (by cases x; simp [ID.cells, Value.oneCell']) hlen h.b1.size
  have hJ' := h.ri.other hg h.hJ (by decide)
  refine ⟨g', cap', w', h1, hJ', ?_⟩
  refine ⟨RS.put (h.ri.other hg h.rs (by decide)) J (by have := h.lg; have := h.lJ; omega) _ _, (h.ri.first h.b1 (Nat.le_refl _) hg).put J h.lJ _ _, blk_other (h.ri.other hg h.hG (by decide)) h.ne.symm _ _, blk_set hJ' _ _, h.lg, h.lG, h.lJ, h.ne, (h.ri.row2 hg h.ru (by decide)).put (h.ri.other hg h.hJ (by decide)) (by decide) _ _, (h.ri.row2 hg h.rc (by decide)).put (h.ri.other hg h.hJ (by decide)) (by decide) _ _, hr.put (h.ri.other hg h.hJ (by decide)) (by decide) _ _, (h.ri.row2 hg h.rn (by decide)).put (h.ri.other hg h.hJ (by decide)) (by decide) _ _⟩
/-- One element more: named. -/
theorem PW.app_n {w0 : World} {g : Nat} {a : Option Addr} {n cap G J : Nat} {d : FD} {su sc si sn : Value} {p : Nat} {bd : Bool} {w : World} (h : PW w0 g a n cap G J d su sc si sn p bd w) (x : ND) (nb : Nat) (ty : TypeId) (hn : w.heap[nb]? = some (.cells (ND.cells x).toArray 116)) (hlen : d.named.length ≤ 2000000) :
    ∃ g' cap' w', Hid ((Builtin.append_ #[48, 48] ty #[sn, .slice (some ⟨nb, 0, none⟩) 1 1]).run Tryz.prog w = .ok (.slice (some ⟨g', 0, none⟩) (d.named.length + 1) cap') w') ∧ w'.heap[J]? = some (POn d su sc si sn) ∧ Hid (PW w0 g a n cap G J { d with named := d.named ++ [x] } su sc si (.slice (some ⟨g', 0, none⟩) (d.named.length + 1) cap') p bd (w'.setCell ⟨J, 8, none⟩ (.slice (some ⟨g', 0, none⟩) (d.named.length + 1) cap'))) := by
  obtain ⟨g', cap', w', h1, hr, hg⟩ := h.rn.app 48 40 (by kernel_rfl) (by kernel_rfl) (by decide) (by decide) x nb ty hn rfl (by cases x; simp [ND.cells, Value.oneCell']) hlen h.b1.size
  have hJ' := h.rn.other hg h.hJ (by decide)
  refine ⟨g', cap', w', h1, hJ', ?_⟩
  refine ⟨RS.put (h.rn.other hg h.rs (by decide)) J (by have := h.lg; have := h.lJ; omega) _ _, (h.rn.first h.b1 (Nat.le_refl _) hg).put J h.lJ _ _, blk_other (h.rn.other hg h.hG (by decide)) h.ne.symm _ _, blk_set hJ' _ _, h.lg, h.lG, h.lJ, h.ne, (h.rn.row2 hg h.ru (by decide)).put (h.rn.other hg h.hJ (by decide)) (by decide) _ _, (h.rn.row2 hg h.rc (by decide)).put (h.rn.other hg h.hJ (by decide)) (by decide) _ _, (h.rn.row2 hg h.ri (by decide)).put (h.rn.other hg h.hJ (by decide)) (by decide) _ _, hr.put (h.rn.other hg h.hJ (by decide)) (by decide) _ _⟩
end Go.Proofs.YtfkeklndcjkgcaaGreatDoor
