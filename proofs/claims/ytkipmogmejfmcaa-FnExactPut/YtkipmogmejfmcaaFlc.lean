/-
  OWN WORK. Floats within the ints' range: from tests to numbers; conversions that have an answer.
-/
import Derived.Test.YtkipmogmejfmcaaFlo
namespace Go.Proofs.Ytkipmogmejfmcaa.Fl
open Go

abbrev C63 : Nat := 4890909195324358656
abbrev N63 : Nat := 14114281232179134464
theorem read_C63 : Ieee.double.read C63 = .number false 4503599627370496 (-1074 + (1085 : Nat)) := by decide
theorem read_N63 : Ieee.double.read N63 = .number true 4503599627370496 (-1074 + (1085 : Nat)) := by decide
theorem e63 : 4503599627370496 * 2 ^ 1085 = 9223372036854775808 * 2 ^ E := by
  rw [show (1085 : Nat) = 11 + E by rw [E_eq], Nat.pow_add, ← Nat.mul_assoc]
theorem V_C63 : V false 4503599627370496 1085 = 9223372036854775808 * ((2 ^ E : Nat) : Int) := by
  unfold V; rw [e63]; simp only [Bool.false_eq_true, if_false]; rw [Int.natCast_mul]; rfl
theorem V_N63 : V true 4503599627370496 1085 = -(9223372036854775808 : Int) * ((2 ^ E : Nat) : Int) := by
  unfold V; rw [e63]; simp only [if_true]; rw [Int.natCast_mul, Int.neg_mul]; rfl

theorem num_of {x : Nat} (hx : x < 18446744073709551616) (h1 : FloatKind.f64.format.order x x = some .eq) (h3 : FloatKind.f64.format.order x C63 ≠ some .gt) (h4 : FloatKind.f64.format.order x C63 ≠ some .eq) (h5 : FloatKind.f64.format.order x N63 ≠ some .lt) :
    ∃ s M L, Can M L ∧ x = wd s M L ∧ Ieee.double.read x = .number s M (-1074 + L) ∧ -(9223372036854775808 : Int) * ((2 ^ E : Nat) : Int) ≤ V s M L ∧ V s M L < 9223372036854775808 * ((2 ^ E : Nat) : Int) := by
  rcases read_cases x hx with ⟨s, M, L, hc, hw, hr⟩ | ⟨s, hr⟩ | ⟨s, t, hr⟩
  · refine ⟨s, M, L, hc, hw, hr, ?_, ?_⟩
    · rw [order_wd hr read_N63, V_N63] at h5
      by_cases h : V s M L < -(9223372036854775808 : Int) * ((2 ^ E : Nat) : Int)
      · rw [Int.compare_eq_lt.2 h] at h5; exact absurd rfl h5
      · exact Int.not_lt.1 h
    · rw [order_wd hr read_C63, V_C63] at h3 h4
      rcases Int.lt_trichotomy (V s M L) (9223372036854775808 * ((2 ^ E : Nat) : Int)) with h | h | h
      · exact h
      · rw [Int.compare_eq_eq.2 h] at h4; exact absurd rfl h4
      · rw [Int.compare_eq_gt.2 h] at h3; exact absurd rfl h3
  · exfalso
    cases s
    · apply h3
      show (Ieee.double.read x).order (Ieee.double.read C63) = _
      rw [hr, read_C63]; rfl
    · apply h5
      show (Ieee.double.read x).order (Ieee.double.read N63) = _
      rw [hr, read_N63]; rfl
  · exfalso
    have : FloatKind.f64.format.order x x = none := by
      show (Ieee.double.read x).order (Ieee.double.read x) = _
      rw [hr]; rfl
    rw [this] at h1; cases h1

theorem pos_of {x : Nat} {s : Bool} {M L : Nat} (hr : Ieee.double.read x = .number s M (-1074 + L)) (h : FloatKind.f64.format.order x 0 ≠ some .eq) : 0 < M := by
  rcases Nat.eq_zero_or_pos M with h0 | h0
  · exfalso; apply h
    rw [order_wd hr read_zero, h0]
    have : V s 0 L = V false 0 0 := by unfold V; simp only [Nat.zero_mul]; cases s <;> simp
    rw [Int.compare_eq_eq.2 this]
  · exact h0

theorem zero_of {x : Nat} {s : Bool} {M L : Nat} (hc : Can M L) (hr : Ieee.double.read x = .number s M (-1074 + L)) (h : FloatKind.f64.format.order x 0 = some .eq) : M = 0 ∧ L = 0 := by
  rw [order_wd hr read_zero] at h
  have hv := Int.compare_eq_eq.1 (Option.some.inj h)
  have hM : M = 0 := by
    have h0 : V false 0 0 = 0 := by unfold V; simp
    rw [h0] at hv
    have hz : M * 2 ^ L = 0 := by
      unfold V at hv
      generalize M * 2 ^ L = A at hv ⊢
      cases s <;> simp at hv <;> omega
    rcases Nat.mul_eq_zero.1 hz with h | h
    · exact h
    · exact absurd h (Nat.ne_of_gt (Nat.two_pow_pos _))
  refine ⟨hM, ?_⟩
  rcases Nat.eq_zero_or_pos L with h | h
  · exact h
  · have := hc.2.1 h; omega

theorem conv_any {x : Nat} {s : Bool} {M L : Nat} (hc : Can M L) (hx : x = wd s M L) (hlo : -(9223372036854775808 : Int) * ((2 ^ E : Nat) : Int) ≤ V s M L) (hhi : V s M L < 9223372036854775808 * ((2 ^ E : Nat) : Int)) : ∃ T, floatToIntVal .f64 x .i64 = some T := by
  by_cases hL : 1074 ≤ L
  · rw [V_big hL] at hlo hhi
    have h1 := le_of_scale hlo
    have h2 := lt_of_scale hhi
    exact ⟨_, conv_big hc hx hL h1 (by omega)⟩
  · exact ⟨_, conv_small hc hx (by omega)⟩

theorem conv_zero (s : Bool) : ∃ T, floatToIntVal .f64 (wd s 0 0) .i64 = some T := by
  cases s
  · exact ⟨0, by decide⟩
  · exact ⟨0, by decide⟩

theorem conv_flr {x : Nat} {s : Bool} {M L : Nat} (hc : Can M L) (hx : x = wd s M L) (hlo : -(9223372036854775808 : Int) * ((2 ^ E : Nat) : Int) ≤ V s M L) (hhi : V s M L < 9223372036854775808 * ((2 ^ E : Nat) : Int)) : ∃ T, floatToIntVal .f64 (flr x) .i64 = some T := by
  by_cases hL : 1074 ≤ L
  · rw [flr_big hc hx hL]; exact conv_any hc hx hlo hhi
  · replace hL : L < 1074 := by omega
    have hf := flr_small hc hx hL
    have hM := hc.1
    have hqb : M / 2 ^ (1074 - L) ≤ M / 2 := Nat.div_le_div_left (by
        have : 2 ^ 1 ≤ 2 ^ (1074 - L) := Nat.pow_le_pow_right (by omega) (by omega)
        omega) (by omega)
    obtain ⟨Q, hQ⟩ : ∃ Q, Q = M / 2 ^ (1074 - L) + (s && decide (M % 2 ^ (1074 - L) ≠ 0)).toNat := ⟨_, rfl⟩
    rw [← hQ] at hf
    have hQle : Q ≤ M / 2 ^ (1074 - L) + 1 := by rw [hQ]; cases (s && decide (M % 2 ^ (1074 - L) ≠ 0)) <;> simp
    rcases Nat.eq_zero_or_pos Q with h0 | h0
    · have : flr x = wd s 0 0 := by rw [hf, h0]; cases s <;> rfl
      rw [this]; exact conv_zero s
    · obtain ⟨N, K, c, hcan, hN, hn, hc52, hNe, hKe, hv⟩ := nearest_int s Q h0 (by omega)
      rw [hn] at hf
      by_cases hK : K < 1074
      · exact ⟨_, conv_small hcan hf hK⟩
      · have hc0 : c = 0 := by omega
        have hNQ : N = Q := by rw [hNe, hc0]; simp
        have hK2 : K - 1074 = 0 := by omega
        refine ⟨_, conv_big hcan hf (by omega) ?_ ?_⟩
        · rw [hK2, hNQ]; cases s <;> simp <;> omega
        · rw [hK2, hNQ]; cases s <;> simp <;> omega

/-- What the specification's floor answers. -/
def l1f (x : Nat) : Nat :=
  if FloatKind.f64.format.order x x = some .eq ∧ FloatKind.f64.format.order x 0 ≠ some .eq ∧ FloatKind.f64.format.order x C63 ≠ some .gt ∧ FloatKind.f64.format.order x C63 ≠ some .eq ∧ FloatKind.f64.format.order x N63 ≠ some .lt ∧ FloatKind.f64.format.order x N63 ≠ some .eq then flr x else x

/-- Within the range it is the floor. -/
theorem l1f_range {x : Nat} (hx : x < 18446744073709551616) (h1 : FloatKind.f64.format.order x x = some .eq) (h3 : FloatKind.f64.format.order x C63 ≠ some .gt) (h4 : FloatKind.f64.format.order x C63 ≠ some .eq) (h5 : FloatKind.f64.format.order x N63 ≠ some .lt) : l1f x = flr x := by
  obtain ⟨s, M, L, hc, hw, hr, hlo, hhi⟩ := num_of hx h1 h3 h4 h5
  unfold l1f
  by_cases h0 : FloatKind.f64.format.order x 0 = some .eq
  · rw [if_neg (by simp [h0])]
    obtain ⟨rfl, rfl⟩ := zero_of hc hr h0
    exact (flr_zero hw).symm
  · by_cases h6 : FloatKind.f64.format.order x N63 = some .eq
    · rw [if_neg (by simp [h6])]
      rw [order_wd hr read_N63, V_N63] at h6
      have hv := Int.compare_eq_eq.1 (Option.some.inj h6)
      have hL : 1074 ≤ L := by
        by_cases hL : 1074 ≤ L
        · exact hL
        · exfalso
          have hle : M * 2 ^ L < 9007199254740992 * 2 ^ E := by
            have h1 := Nat.mul_lt_mul_of_pos_right hc.1 (Nat.two_pow_pos L)
            have h2 : 2 ^ L ≤ 2 ^ E := Nat.pow_le_pow_right (by omega) (by rw [E_eq]; omega)
            have h3 := Nat.mul_le_mul_left 9007199254740992 h2
            omega
          have hE := PE_pos
          unfold V at hv
          generalize M * 2 ^ L = A at hv hle
          generalize 2 ^ E = P at hv hle hE
          cases s <;> simp at hv <;> omega
      exact (flr_big hc hw hL).symm
    · rw [if_pos ⟨h1, h0, h3, h4, h5, h6⟩]
end Go.Proofs.Ytkipmogmejfmcaa.Fl
