/-
  OWN WORK. Floors of floats: the one rounding of the library's floor, and the way over an int and back.
-/
import Derived.Test.YtkipmogmejfmcaaFl
namespace Go.Proofs.Ytkipmogmejfmcaa.Fl
open Go

/-- The scale's exponent, kept from being reckoned. -/
def E : Nat := 1074
theorem E_eq : E = 1074 := rfl
theorem PE_pos : 0 < 2 ^ E := Nat.two_pow_pos _

/-- The floor, as the library's entry has it. -/
def flr (x : Nat) : Nat := FloatKind.f64.encode ((FloatKind.f64.decode x).integral .down)

theorem cut_div (M k : Nat) : M / 2 ^ (min k (M.log2 + 2)) = M / 2 ^ k ∧ (M % 2 ^ (min k (M.log2 + 2)) ≠ 0 ↔ M % 2 ^ k ≠ 0) := by
  by_cases h : k ≤ M.log2 + 2
  · rw [Nat.min_eq_left h]; exact ⟨rfl, Iff.rfl⟩
  · rw [Nat.min_eq_right (by omega)]
    have h1 : M < 2 ^ (M.log2 + 2) := by
      have := Nat.lt_log2_self (n := M)
      have h2 : 2 ^ (M.log2 + 1) ≤ 2 ^ (M.log2 + 2) := Nat.pow_le_pow_right (by omega) (by omega)
      omega
    have h2 : M < 2 ^ k := Nat.lt_of_lt_of_le h1 (Nat.pow_le_pow_right (by omega) (by omega))
    rw [Nat.div_eq_of_lt h1, Nat.div_eq_of_lt h2, Nat.mod_eq_of_lt h1, Nat.mod_eq_of_lt h2]
    exact ⟨rfl, Iff.rfl⟩

theorem cut_zero (s : Bool) (M k : Nat) : Ieee.Toward.zero.cut s M k = M / 2 ^ k := by
  unfold Ieee.Toward.cut
  dsimp only
  rw [Nat.one_shiftLeft, (cut_div M k).1]; rfl

theorem cut_down (s : Bool) (M k : Nat) : Ieee.Toward.down.cut s M k = M / 2 ^ k + (s && decide (M % 2 ^ k ≠ 0)).toNat := by
  unfold Ieee.Toward.cut
  dsimp only
  rw [Nat.one_shiftLeft, (cut_div M k).1]
  have h := (cut_div M k).2
  congr 2
  by_cases hz : M % 2 ^ k ≠ 0
  · have := h.2 hz; simp [hz, this]
  · have : ¬ (M % 2 ^ (min k (M.log2 + 2)) ≠ 0) := fun q => hz (h.1 q)
    simp only [ne_eq, Decidable.not_not] at hz this
    simp [hz, this]

theorem integral_big (way : Ieee.Toward) (hw : way = .down ∨ way = .zero) (s : Bool) (M L : Nat) (hL : 1074 ≤ L) : (Ieee.Datum.number s M (-1074 + L)).integral way = .number s (M * 2 ^ (L - 1074)) 0 := by
  simp only [Ieee.Datum.integral]
  have t1 : (-1074 + (L : Int)).toNat = L - 1074 := by omega
  have t2 : (-(-1074 + (L : Int))).toNat = 0 := by omega
  rw [t1, t2, Nat.shiftLeft_eq]
  rcases hw with rfl | rfl
  · rw [cut_down]; simp [Nat.mod_one]
  · rw [cut_zero]; simp

theorem integral_down (s : Bool) (M L : Nat) (hL : L < 1074) : (Ieee.Datum.number s M (-1074 + L)).integral .down = .number s (M / 2 ^ (1074 - L) + (s && decide (M % 2 ^ (1074 - L) ≠ 0)).toNat) 0 := by
  simp only [Ieee.Datum.integral]
  have t1 : (-1074 + (L : Int)).toNat = 0 := by omega
  have t2 : (-(-1074 + (L : Int))).toNat = 1074 - L := by omega
  rw [t1, t2, Nat.shiftLeft_zero, cut_down]

theorem integral_zero (s : Bool) (M L : Nat) (hL : L < 1074) : (Ieee.Datum.number s M (-1074 + L)).integral .zero = .number s (M / 2 ^ (1074 - L)) 0 := by
  simp only [Ieee.Datum.integral]
  have t1 : (-1074 + (L : Int)).toNat = 0 := by omega
  have t2 : (-(-1074 + (L : Int))).toNat = 1074 - L := by omega
  rw [t1, t2, Nat.shiftLeft_zero, cut_zero]

theorem flr_big {x : Nat} {s : Bool} {M L : Nat} (hc : Can M L) (hx : x = wd s M L) (hL : 1074 ≤ L) : flr x = x := by
  have hr := read_wd s M L hc
  unfold flr FloatKind.decode FloatKind.encode
  show Ieee.double.write ((Ieee.double.read x).integral .down) = x
  rw [hx, hr, integral_big .down (.inl rfl) s M L hL]
  show Ieee.double.nearest s (M * 2 ^ (L - 1074)) 0 = _
  exact nearest_down s M L (L - 1074) (by have := hc.2.1 (by omega); omega) hc 0 (by omega)

theorem flr_small {x : Nat} {s : Bool} {M L : Nat} (hc : Can M L) (hx : x = wd s M L) (hL : L < 1074) : flr x = Ieee.double.nearest s (M / 2 ^ (1074 - L) + (s && decide (M % 2 ^ (1074 - L) ≠ 0)).toNat) 0 := by
  have hr := read_wd s M L hc
  unfold flr FloatKind.decode FloatKind.encode
  show Ieee.double.write ((Ieee.double.read x).integral .down) = _
  rw [hx, hr, integral_down s M L hL]
  rfl

/-- A whole number below 2 ^ 53 as a float. -/
theorem nearest_int (s : Bool) (n : Nat) (h0 : 0 < n) (h1 : n < 9007199254740992) : ∃ M L c, Can M L ∧ 0 < M ∧ Ieee.double.nearest s n 0 = wd s M L ∧ c ≤ 52 ∧ M = n * 2 ^ c ∧ L = 1074 - c ∧ V s M L = (if s then -((n * 2 ^ E : Nat) : Int) else ((n * 2 ^ E : Nat) : Int)) := by
  have hl : n.log2 ≤ 52 := by have := (Nat.log2_lt (n := n) (k := 53) (by omega)).2 (by omega); omega
  have ha : 2 ^ n.log2 ≤ n := Nat.log2_self_le (by omega)
  have hb : n < 2 ^ (n.log2 + 1) := Nat.lt_log2_self
  have hp : 0 < 2 ^ (52 - n.log2) := Nat.two_pow_pos _
  have hlo : 4503599627370496 ≤ n * 2 ^ (52 - n.log2) := by
    have := Nat.mul_le_mul_right (2 ^ (52 - n.log2)) ha
    rw [← Nat.pow_add, show n.log2 + (52 - n.log2) = 52 by omega] at this
    exact this
  have hhi : n * 2 ^ (52 - n.log2) < 9007199254740992 := by
    have := Nat.mul_lt_mul_of_pos_right hb hp
    rw [← Nat.pow_add, show n.log2 + 1 + (52 - n.log2) = 53 by omega] at this
    exact this
  have hc : Can (n * 2 ^ (52 - n.log2)) (1074 - (52 - n.log2)) := ⟨hhi, fun _ => hlo, by omega⟩
  refine ⟨_, _, 52 - n.log2, hc, by omega, nearest_up s n (52 - n.log2) _ h0 hc 0 (by omega), by omega, rfl, rfl, ?_⟩
  unfold V
  rw [Nat.mul_assoc, ← Nat.pow_add, show 52 - n.log2 + (1074 - (52 - n.log2)) = E by rw [E_eq]; omega]

theorem read_zero : Ieee.double.read 0 = .number false 0 (-1074 + (0 : Nat)) := by decide
theorem can0 : Can 0 0 := ⟨by omega, by omega, by omega⟩

theorem flr_zero {x : Nat} {s : Bool} (hx : x = wd s 0 0) : flr x = x := by
  rw [flr_small can0 hx (by omega)]
  generalize 2 ^ (1074 - 0) = D
  rw [Nat.zero_div, Nat.zero_mod]
  subst hx
  cases s
  · rfl
  · rfl

/-- 'float64(int64(x))' of a number below 1074 places: towards zero. -/
theorem conv_small {x : Nat} {s : Bool} {M L : Nat} (hc : Can M L) (hx : x = wd s M L) (hL : L < 1074) : floatToIntVal .f64 x .i64 = some (if s then -((M / 2 ^ (1074 - L) : Nat) : Int) else ((M / 2 ^ (1074 - L) : Nat) : Int)) := by
  have hr := read_wd s M L hc
  have hq : M / 2 ^ (1074 - L) ≤ M := Nat.div_le_self _ _
  have hm := hc.1
  unfold floatToIntVal FloatKind.decode Ieee.Datum.toInt
  rw [show FloatKind.f64.format.read x = Ieee.double.read x from rfl, hx, hr, integral_zero s M L hL]
  simp only [Ieee.signed, Nat.shiftLeft_zero]
  have e1 : IntKind.i64.min = -9223372036854775808 := by decide
  have e2 : IntKind.i64.max = 9223372036854775807 := by decide
  rw [e1, e2]
  generalize M / 2 ^ (1074 - L) = q at hq ⊢
  cases s
  · simp only [Bool.false_eq_true, if_false]; rw [if_pos (by omega)]
  · simp only [if_true]; rw [if_pos (by omega)]

theorem conv_big {x : Nat} {s : Bool} {M L : Nat} (hc : Can M L) (hx : x = wd s M L) (hL : 1074 ≤ L) (hlo : -9223372036854775808 ≤ (if s then -((M * 2 ^ (L - 1074) : Nat) : Int) else ((M * 2 ^ (L - 1074) : Nat) : Int))) (hhi : (if s then -((M * 2 ^ (L - 1074) : Nat) : Int) else ((M * 2 ^ (L - 1074) : Nat) : Int)) ≤ 9223372036854775807) :
    floatToIntVal .f64 x .i64 = some (if s then -((M * 2 ^ (L - 1074) : Nat) : Int) else ((M * 2 ^ (L - 1074) : Nat) : Int)) := by
  have hr := read_wd s M L hc
  unfold floatToIntVal FloatKind.decode Ieee.Datum.toInt
  rw [show FloatKind.f64.format.read x = Ieee.double.read x from rfl, hx, hr, integral_big .zero (.inr rfl) s M L hL]
  simp only [Ieee.signed, Nat.shiftLeft_zero]
  have e1 : IntKind.i64.min = -9223372036854775808 := by decide
  have e2 : IntKind.i64.max = 9223372036854775807 := by decide
  rw [e1, e2, if_pos ⟨hlo, hhi⟩]

theorem foi (T : Int) : floatOfInt .f64 T = Ieee.double.nearest (decide (T < 0)) T.natAbs 0 := rfl

/-- Within the ints' range, by the scaled number. -/
theorem V_big {s : Bool} {M L : Nat} (hL : 1074 ≤ L) : V s M L = (if s then -((M * 2 ^ (L - 1074) : Nat) : Int) else ((M * 2 ^ (L - 1074) : Nat) : Int)) * ((2 ^ E : Nat) : Int) := by
  unfold V
  have e : M * 2 ^ L = M * 2 ^ (L - 1074) * 2 ^ E := by rw [Nat.mul_assoc, ← Nat.pow_add, E_eq, Nat.sub_add_cancel hL]
  cases s
  · simp only [Bool.false_eq_true, if_false]; rw [e, Int.natCast_mul]
  · simp only [if_true]; rw [e, Int.natCast_mul, Int.neg_mul]

theorem lt_of_scale {a b : Int} (h : a * ((2 ^ E : Nat) : Int) < b * ((2 ^ E : Nat) : Int)) : a < b :=
  Int.lt_of_mul_lt_mul_right h (Int.natCast_nonneg _)
theorem le_of_scale {a b : Int} (h : a * ((2 ^ E : Nat) : Int) ≤ b * ((2 ^ E : Nat) : Int)) : a ≤ b :=
  Int.le_of_mul_le_mul_right h (Int.natCast_pos.2 PE_pos)

/-- The floor lies not above; how the two stand to each other. -/
theorem flr_order {x : Nat} {s : Bool} {M L : Nat} (hc : Can M L) (hx : x = wd s M L) :
    (FloatKind.f64.format.order (flr x) x = some .lt ∧ FloatKind.f64.format.order x (flr x) = some .gt) ∨ (FloatKind.f64.format.order (flr x) x = some .eq ∧ FloatKind.f64.format.order x (flr x) = some .eq) := by
  have hr := read_wd s M L hc
  rw [← hx] at hr
  have same : flr x = x → (FloatKind.f64.format.order (flr x) x = some .lt ∧ FloatKind.f64.format.order x (flr x) = some .gt) ∨ (FloatKind.f64.format.order (flr x) x = some .eq ∧ FloatKind.f64.format.order x (flr x) = some .eq) := by
    intro h
    rw [h, order_wd hr hr]
    exact .inr ⟨by rw [Int.compare_eq_eq.2 rfl], by rw [Int.compare_eq_eq.2 rfl]⟩
  by_cases hL : 1074 ≤ L
  · exact same (flr_big hc hx hL)
  · replace hL : L < 1074 := by omega
    have hf := flr_small hc hx hL
    have hdm := Nat.div_add_mod M (2 ^ (1074 - L))
    have hpos : 0 < 2 ^ (1074 - L) := Nat.two_pow_pos _
    have hmod := Nat.mod_lt M hpos
    have hle : M / 2 ^ (1074 - L) ≤ M := Nat.div_le_self _ _
    have hM := hc.1
    have hPL : 0 < 2 ^ L := Nat.two_pow_pos _
    have hPE : 2 ^ E = 2 ^ (1074 - L) * 2 ^ L := by rw [← Nat.pow_add, Nat.sub_add_cancel (by omega), E_eq]
    -- the scaled floor, its word
    obtain ⟨Q, hQ⟩ : ∃ Q, Q = M / 2 ^ (1074 - L) + (s && decide (M % 2 ^ (1074 - L) ≠ 0)).toNat := ⟨_, rfl⟩
    rw [← hQ] at hf
    have hQle : Q ≤ M / 2 ^ (1074 - L) + 1 := by rw [hQ]; cases (s && decide (M % 2 ^ (1074 - L) ≠ 0)) <;> simp
    have hQb : Q < 9007199254740992 := by
      have : M / 2 ^ (1074 - L) ≤ M / 2 := Nat.div_le_div_left (by
        have : 2 ^ 1 ≤ 2 ^ (1074 - L) := Nat.pow_le_pow_right (by omega) (by omega)
        omega) (by omega)
      omega
    have key : ∀ {t : Bool} {N K : Nat}, Ieee.double.read (flr x) = .number t N (-1074 + K) → V t N K ≤ V s M L → (FloatKind.f64.format.order (flr x) x = some .lt ∧ FloatKind.f64.format.order x (flr x) = some .gt) ∨ (FloatKind.f64.format.order (flr x) x = some .eq ∧ FloatKind.f64.format.order x (flr x) = some .eq) := by
      intro t N K h1 h2
      rw [order_wd h1 hr, order_wd hr h1]
      rcases Int.lt_or_eq_of_le h2 with h | h
      · exact .inl ⟨by rw [Int.compare_eq_lt.2 h], by rw [Int.compare_eq_gt.2 h]⟩
      · exact .inr ⟨by rw [Int.compare_eq_eq.2 h], by rw [Int.compare_eq_eq.2 h.symm]⟩
    have hV : (if s then -((Q * 2 ^ E : Nat) : Int) else ((Q * 2 ^ E : Nat) : Int)) ≤ V s M L := by
      unfold V
      cases s
      · simp only [Bool.false_eq_true, if_false, Bool.false_and, Bool.toNat_false, Nat.add_zero] at hQ ⊢
        have : Q * 2 ^ E ≤ M * 2 ^ L := by
          rw [hPE, ← Nat.mul_assoc]
          exact Nat.mul_le_mul_right _ (by rw [hQ, Nat.mul_comm]; omega)
        exact Int.ofNat_le.2 this
      · simp only [if_true, Bool.true_and] at hQ ⊢
        have : M * 2 ^ L ≤ Q * 2 ^ E := by
          rw [hPE, ← Nat.mul_assoc]
          refine Nat.mul_le_mul_right _ ?_
          by_cases hz : M % 2 ^ (1074 - L) ≠ 0
          · have hq : Q = M / 2 ^ (1074 - L) + 1 := by rw [hQ]; simp [hz]
            rw [hq, Nat.add_mul, Nat.one_mul, Nat.mul_comm]; omega
          · have hq : Q = M / 2 ^ (1074 - L) := by rw [hQ]; simp at hz; simp [hz]
            rw [hq, Nat.mul_comm]; omega
        have := Int.ofNat_le.2 this
        exact Int.neg_le_neg this
    by_cases h0 : Q = 0
    · by_cases hs : s = false
      · have hf0 : flr x = 0 := by rw [hf, h0, hs]; rfl
        refine key (t := false) (N := 0) (K := 0) (by rw [hf0]; exact read_zero) ?_
        rw [h0, hs] at hV
        rw [hs]
        simpa [V] using hV
      · have hs : s = true := by simpa using hs
        have hM0 : M = 0 := by
          rw [hs] at hQ
          rw [h0] at hQ
          have h12 := Nat.add_eq_zero_iff.1 hQ.symm
          have h1 : M / 2 ^ (1074 - L) = 0 := h12.1
          have h2 : M % 2 ^ (1074 - L) = 0 := by
            by_cases hz : M % 2 ^ (1074 - L) = 0
            · exact hz
            · have h3 := h12.2
              simp [hz] at h3
          rw [h1, h2] at hdm; simpa using hdm.symm
        have hL0 : L = 0 := by
          by_cases h : 0 < L
          · have := hc.2.1 h; omega
          · omega
        exact same (flr_zero (s := s) (by rw [hx, hM0, hL0]))
    · obtain ⟨N, K, c, hcan, _, hn, _, _, _, hv⟩ := nearest_int s Q (by omega) hQb
      rw [← hv] at hV
      exact key (by rw [hf, hn]; exact read_wd s N K hcan) hV
end Go.Proofs.Ytkipmogmejfmcaa.Fl
