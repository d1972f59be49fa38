/-
  OWN WORK. The floor by way of an int and back: what the specification's own floor comes to.
-/
import Derived.Test.YtkipmogmejfmcaaFlr
namespace Go.Proofs.Ytkipmogmejfmcaa.Fl
open Go

theorem sub_one {t : Nat} {g : Bool} {a b : Nat} (q : Nat) (hc : Can a b) (ht : Ieee.double.read t = .number g a (-1074 + b)) (hb : b ≤ 1074) (hg : g = true ∨ a = 0) (ha : a * 2 ^ b = q * 2 ^ E) (hq : q + 1 < 9007199254740992) :
    floatBits .sub .f64 t 4607182418800017408 = some (Ieee.double.nearest true (q + 1) 0) := by
  have h1 : Ieee.double.read 4607182418800017408 = .number false 4503599627370496 (-52) := by decide
  obtain ⟨M, L, c, hcan, hM, hn, hc52, hMe, hLe, _⟩ := nearest_int true (q + 1) (by omega) hq
  show (((Ieee.double.read t).sum (Ieee.double.read 4607182418800017408).opposite).map Ieee.double.write) = _
  rw [ht, h1]
  simp only [Ieee.Datum.opposite, Ieee.Datum.sum, Option.map_some, Option.some.injEq]
  -- the base
  have hmin : ∃ B : Nat, 52 ≤ B ∧ B ≤ 1074 ∧ min (-1074 + (b : Int)) (-52) = -(B : Int) ∧ 1074 - b ≤ B := ⟨(-(min (-1074 + (b : Int)) (-52))).toNat, by omega, by omega, by omega, by omega⟩
  obtain ⟨B, hB1, hB2, hB3, hB4⟩ := hmin
  rw [hB3]
  have t1 : (-1074 + (b : Int) - -(B : Int)).toNat = b + B - 1074 := by omega
  have t2 : (-52 - -(B : Int)).toNat = B - 52 := by omega
  rw [t1, t2]
  -- the first summand
  have s1 : a <<< (b + B - 1074) = q * 2 ^ B := by
    rw [Nat.shiftLeft_eq]
    have h : a * 2 ^ (b + B - 1074) * 2 ^ (1074 - B) = q * 2 ^ B * 2 ^ (1074 - B) := by
      rw [Nat.mul_assoc, ← Nat.pow_add, Nat.mul_assoc, ← Nat.pow_add, show b + B - 1074 + (1074 - B) = b by omega, show B + (1074 - B) = E by rw [E_eq]; omega]
      exact ha
    exact Nat.eq_of_mul_eq_mul_right (Nat.two_pow_pos _) h
  have s2 : (4503599627370496 : Nat) <<< (B - 52) = 2 ^ B := by
    rw [Nat.shiftLeft_eq, show (4503599627370496 : Nat) = 2 ^ 52 by decide, ← Nat.pow_add, show 52 + (B - 52) = B by omega]
  have tot : Ieee.signed g a (b + B - 1074) + Ieee.signed true 4503599627370496 (B - 52) = -(((q + 1) * 2 ^ B : Nat) : Int) := by
    unfold Ieee.signed
    rw [s2]
    rcases hg with rfl | rfl
    · simp only [if_true]
      rw [s1, Nat.add_mul, Nat.one_mul]; omega
    · rw [Nat.zero_shiftLeft] at s1
      have hq0 : q = 0 := by
        rcases Nat.mul_eq_zero.1 s1.symm with h | h
        · exact h
        · exact absurd h (Nat.ne_of_gt (Nat.two_pow_pos _))
      subst hq0
      cases g <;> simp
  have hne : 0 < (q + 1) * 2 ^ B := Nat.mul_pos (by omega) (Nat.two_pow_pos _)
  simp only [Bool.not_false, tot]
  rw [if_neg (by omega)]
  have hneg : decide (-(((q + 1) * 2 ^ B : Nat) : Int) < 0) = true := decide_eq_true (by omega)
  rw [hneg, Int.natAbs_neg, Int.natAbs_natCast]
  show Ieee.double.nearest true ((q + 1) * 2 ^ B) (-(B : Int)) = _
  have hMB : (q + 1) * 2 ^ B = M * 2 ^ (B - c) := by rw [hMe, Nat.mul_assoc, ← Nat.pow_add, show c + (B - c) = B by omega]
  rw [hMB, hn]
  exact nearest_down true M L (B - c) hM hcan _ (by omega)

/-- The way over an int and back, below the scale's end: the answer is the floor. -/
theorem way {x : Nat} {s : Bool} {M L : Nat} (hc : Can M L) (hx : x = wd s M L) (hM : 0 < M) (hlo : -((9223372036854775808 : Int)) * ((2 ^ E : Nat) : Int) ≤ V s M L) (hhi : V s M L < 9223372036854775808 * ((2 ^ E : Nat) : Int)) :
    ∃ T, floatToIntVal .f64 x .i64 = some T ∧ ((FloatKind.f64.format.order (floatOfInt .f64 T) x = some .gt ∧ floatBits .sub .f64 (floatOfInt .f64 T) 4607182418800017408 = some (flr x)) ∨ (FloatKind.f64.format.order (floatOfInt .f64 T) x ≠ some .gt ∧ floatOfInt .f64 T = flr x)) := by
  by_cases hL : 1074 ≤ L
  · rw [V_big hL] at hlo hhi
    have h1 := le_of_scale hlo
    have h2 := lt_of_scale hhi
    refine ⟨_, conv_big hc hx hL h1 (by omega), .inr ?_⟩
    have e : floatOfInt .f64 (if s then -((M * 2 ^ (L - 1074) : Nat) : Int) else ((M * 2 ^ (L - 1074) : Nat) : Int)) = x := by
      have hp : 0 < M * 2 ^ (L - 1074) := Nat.mul_pos hM (Nat.two_pow_pos _)
      rw [foi, hx]
      generalize hg : M * 2 ^ (L - 1074) = g at hp
      have : Ieee.double.nearest s g 0 = wd s M L := by rw [← hg]; exact nearest_down s M L (L - 1074) hM hc 0 (by omega)
      rw [← this]
      cases s
      · simp only [Bool.false_eq_true, if_false, Int.natAbs_natCast]; rw [show decide ((g : Int) < 0) = false by simp]
      · simp only [if_true, Int.natAbs_neg, Int.natAbs_natCast]; rw [show decide (-(g : Int) < 0) = true by simp; omega]
    rw [e, flr_big hc hx hL]
    have hr := read_wd s M L hc
    rw [← hx] at hr
    exact ⟨by rw [order_wd hr hr, Int.compare_eq_eq.2 rfl]; simp, rfl⟩
  · replace hL : L < 1074 := by omega
    refine ⟨_, conv_small hc hx hL, ?_⟩
    have hf := flr_small hc hx hL
    have hr := read_wd s M L hc
    rw [← hx] at hr
    have hdm := Nat.div_add_mod M (2 ^ (1074 - L))
    have hpos : 0 < 2 ^ (1074 - L) := Nat.two_pow_pos _
    have hM53 := hc.1
    have hPE : 2 ^ E = 2 ^ (1074 - L) * 2 ^ L := by rw [← Nat.pow_add, Nat.sub_add_cancel (by omega), E_eq]
    have hPL : 0 < 2 ^ L := Nat.two_pow_pos _
    have hqb : M / 2 ^ (1074 - L) ≤ M / 2 := Nat.div_le_div_left (by
        have : 2 ^ 1 ≤ 2 ^ (1074 - L) := Nat.pow_le_pow_right (by omega) (by omega)
        omega) (by omega)
    generalize hqd : M / 2 ^ (1074 - L) = q at hf hdm hqb ⊢
    generalize hrd : M % 2 ^ (1074 - L) = rr at hf hdm
    have hscale : (2 ^ (1074 - L) * q + rr) * 2 ^ L = q * 2 ^ E + rr * 2 ^ L := by rw [Nat.add_mul, hPE, Nat.mul_comm (2 ^ (1074 - L)) q, Nat.mul_assoc]
    rw [hdm] at hscale
    cases s
    · -- not below nought
      simp only [Bool.false_eq_true, if_false, Bool.false_and, Bool.toNat_false, Nat.add_zero] at hf ⊢
      have e : floatOfInt .f64 ((q : Nat) : Int) = flr x := by rw [hf, foi, Int.natAbs_natCast, show decide ((q : Int) < 0) = false by simp]
      refine .inr ⟨?_, e⟩
      rw [e]
      rcases flr_order hc hx with h | h <;> rw [h.1] <;> simp
    · simp only [if_true, Bool.true_and] at hf ⊢
      by_cases hz : rr = 0
      · have hq0 : 0 < q := by
          rcases Nat.eq_zero_or_pos q with h | h
          · rw [h, hz] at hdm; simp at hdm; omega
          · exact h
        have e : floatOfInt .f64 (-(q : Int)) = flr x := by
          rw [hf, foi, Int.natAbs_neg, Int.natAbs_natCast, show decide (-(q : Int) < 0) = true by simp; omega]
          simp [hz]
        refine .inr ⟨?_, e⟩
        rw [e]
        rcases flr_order hc hx with h | h <;> rw [h.1] <;> simp
      · have hf' : flr x = Ieee.double.nearest true (q + 1) 0 := by rw [hf]; simp [hz]
        refine .inl ?_
        have hrp : 0 < rr * 2 ^ L := Nat.mul_pos (by omega) hPL
        rcases Nat.eq_zero_or_pos q with h0 | h0
        · have e : floatOfInt .f64 (-(q : Int)) = 0 := by rw [h0]; rfl
          rw [e]
          constructor
          · rw [order_wd read_zero hr]
            have hgt : V true M L < V false 0 0 := by
              simp only [V, if_true, Bool.false_eq_true, if_false]
              rw [hscale, h0, Nat.zero_mul, Nat.zero_add, Nat.zero_mul]
              omega
            rw [Int.compare_eq_gt.2 hgt]
          · rw [hf', h0]
            exact sub_one (g := false) (a := 0) (b := 0) 0 can0 read_zero (by omega) (.inr rfl) (by simp) (by omega)
        · obtain ⟨N, K, c, hcan, hN, hn, hc52, hNe, hKe, hv⟩ := nearest_int true q h0 (by omega)
          have e : floatOfInt .f64 (-(q : Int)) = wd true N K := by
            rw [foi, Int.natAbs_neg, Int.natAbs_natCast, show decide (-(q : Int) < 0) = true by simp; omega]; exact hn
          rw [e]
          constructor
          · rw [order_wd (read_wd true N K hcan) hr]
            have hgt : V true M L < V true N K := by
              rw [hv]
              simp only [V, if_true]
              rw [hscale]
              generalize q * 2 ^ E = A
              omega
            rw [Int.compare_eq_gt.2 hgt]
          · rw [hf']
            refine sub_one (g := true) (a := N) (b := K) q hcan (read_wd true N K hcan) (by omega) (.inl rfl) ?_ (by omega)
            rw [hNe, hKe, Nat.mul_assoc, ← Nat.pow_add, show c + (1074 - c) = E by rw [E_eq]; omega]
end Go.Proofs.Ytkipmogmejfmcaa.Fl
