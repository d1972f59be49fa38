import Derived.Test.YtfkeklndcjkgcaaGreatDoorFl
import Derived.Laws.BitsAllLaws
import Derived.Laws.Bits64
/-
  OWN WORK. Floors of floats: the one rounding of the library's floor, and the way over an int and back.
-/
namespace Go.Proofs.YtfkeklndcjkgcaaGreatDoor.Fl
open Go

/-- The scale's exponent, kept from being reckoned. -/
def E : Nat := 1074
theorem E_eq : E = 1074 := rfl
theorem PE_pos : 0 < 2 ^ E := Nat.two_pow_pos _

/-- The floor, as the library's entry has it. -/
def flr (x : Nat) : Nat := FloatKind.f64.encode ((FloatKind.f64.decode x).integral .down)

theorem cut_div (M k : Nat) : M / 2 ^ (min k (M.log2 + 2)) = M / 2 ^ k ∧ (M % 2 ^ (min k (M.log2 + 2)) ≠ 0 ↔ M % 2 ^ k ≠ 0) := by
  by_cases h : k ≤ M.log2 + 2
  · rw [Nat.min_eq_left h]; exact ⟨rfl, Iff.rfl⟩
  · rw [Nat.min_eq_right (by omega)]
    have h1 : M < 2 ^ (M.log2 + 2) := by
      have := Nat.lt_log2_self (n := M)
      have h2 : 2 ^ (M.log2 + 1) ≤ 2 ^ (M.log2 + 2) := Nat.pow_le_pow_right (by omega) (by omega)
      omega
    have h2 : M < 2 ^ k := Nat.lt_of_lt_of_le h1 (Nat.pow_le_pow_right (by omega) (by omega))
    rw [Nat.div_eq_of_lt h1, Nat.div_eq_of_lt h2, Nat.mod_eq_of_lt h1, Nat.mod_eq_of_lt h2]
    exact ⟨rfl, Iff.rfl⟩

theorem cut_zero (s : Bool) (M k : Nat) : Ieee.Toward.zero.cut s M k = M / 2 ^ k := by
  unfold Ieee.Toward.cut
  dsimp only
  rw [Nat.one_shiftLeft, (cut_div M k).1]; rfl

theorem cut_down (s : Bool) (M k : Nat) : Ieee.Toward.down.cut s M k = M / 2 ^ k + (s && decide (M % 2 ^ k ≠ 0)).toNat := by
  unfold Ieee.Toward.cut
  dsimp only
  rw [Nat.one_shiftLeft, (cut_div M k).1]
  have h := (cut_div M k).2
  congr 2
  by_cases hz : M % 2 ^ k ≠ 0
  · have := h.2 hz; simp [hz, this]
  · have : ¬ (M % 2 ^ (min k (M.log2 + 2)) ≠ 0) := fun q => hz (h.1 q)
    simp only [ne_eq, Decidable.not_not] at hz this
    simp [hz, this]

theorem integral_big (way : Ieee.Toward) (hw : way = .down ∨ way = .zero) (s : Bool) (M L : Nat) (hL : 1074 ≤ L) : (Ieee.Datum.number s M (-1074 + L)).integral way = .number s (M * 2 ^ (L - 1074)) 0 := by
  simp only [Ieee.Datum.integral]
  have t1 : (-1074 + (L : Int)).toNat = L - 1074 := by omega
  have t2 : (-(-1074 + (L : Int))).toNat = 0 := by omega
  rw [t1, t2, Nat.shiftLeft_eq]
  rcases hw with rfl | rfl
  · rw [cut_down]; simp [Nat.mod_one]
  · rw [cut_zero]; simp

theorem integral_down (s : Bool) (M L : Nat) (hL : L < 1074) : (Ieee.Datum.number s M (-1074 + L)).integral .down = .number s (M / 2 ^ (1074 - L) + (s && decide (M % 2 ^ (1074 - L) ≠ 0)).toNat) 0 := by
  simp only [Ieee.Datum.integral]
  have t1 : (-1074 + (L : Int)).toNat = 0 := by omega
  have t2 : (-(-1074 + (L : Int))).toNat = 1074 - L := by omega
  rw [t1, t2, Nat.shiftLeft_zero, cut_down]

theorem integral_zero (s : Bool) (M L : Nat) (hL : L < 1074) : (Ieee.Datum.number s M (-1074 + L)).integral .zero = .number s (M / 2 ^ (1074 - L)) 0 := by
  simp only [Ieee.Datum.integral]
  have t1 : (-1074 + (L : Int)).toNat = 0 := by omega
  have t2 : (-(-1074 + (L : Int))).toNat = 1074 - L := by omega
  rw [t1, t2, Nat.shiftLeft_zero, cut_zero]

theorem flr_big {x : Nat} {s : Bool} {M L : Nat} (hc : Can M L) (hx : x = wd s M L) (hL : 1074 ≤ L) : flr x = x := by
  have hr := read_wd s M L hc
  unfold flr FloatKind.decode FloatKind.encode
  show Ieee.double.write ((Ieee.double.read x).integral .down) = x
  rw [hx, hr, integral_big .down (.inl rfl) s M L hL]
  show Ieee.double.nearest s (M * 2 ^ (L - 1074)) 0 = _
  exact nearest_down s M L (L - 1074) (by have := hc.2.1 (by omega); omega) hc 0 (by omega)

theorem flr_small {x : Nat} {s : Bool} {M L : Nat} (hc : Can M L) (hx : x = wd s M L) (hL : L < 1074) : flr x = Ieee.double.nearest s (M / 2 ^ (1074 - L) + (s && decide (M % 2 ^ (1074 - L) ≠ 0)).toNat) 0 := by
  have hr := read_wd s M L hc
  unfold flr FloatKind.decode FloatKind.encode
  show Ieee.double.write ((Ieee.double.read x).integral .down) = _
  rw [hx, hr, integral_down s M L hL]
  rfl

/-- A whole number below 2 ^ 53 as a float. -/
theorem nearest_int (s : Bool) (n : Nat) (h0 : 0 < n) (h1 : n < 9007199254740992) : ∃ M L c, Can M L ∧ 0 < M ∧ Ieee.double.nearest s n 0 = wd s M L ∧ c ≤ 52 ∧ M = n * 2 ^ c ∧ L = 1074 - c ∧ V s M L = (if s then -((n * 2 ^ E : Nat) : Int) else ((n * 2 ^ E : Nat) : Int)) := by
  have hl : n.log2 ≤ 52 := by have := (Nat.log2_lt (n := n) (k := 53) (by omega)).2 (by omega); omega
  have ha : 2 ^ n.log2 ≤ n := Nat.log2_self_le (by omega)
  have hb : n < 2 ^ (n.log2 + 1) := Nat.lt_log2_self
  have hp : 0 < 2 ^ (52 - n.log2) := Nat.two_pow_pos _
  have hlo : 4503599627370496 ≤ n * 2 ^ (52 - n.log2) := by
    have := Nat.mul_le_mul_right (2 ^ (52 - n.log2)) ha
    rw [← Nat.pow_add, show n.log2 + (52 - n.log2) = 52 by omega] at this
    exact this
  have hhi : n * 2 ^ (52 - n.log2) < 9007199254740992 := by
    have := Nat.mul_lt_mul_of_pos_right hb hp
    rw [← Nat.pow_add, show n.log2 + 1 + (52 - n.log2) = 53 by omega] at this
    exact this
  have hc : Can (n * 2 ^ (52 - n.log2)) (1074 - (52 - n.log2)) := ⟨hhi, fun _ => hlo, by omega⟩
  refine ⟨_, _, 52 - n.log2, hc, by omega, nearest_up s n (52 - n.log2) _ h0 hc 0 (by omega), by omega, rfl, rfl, ?_⟩
  unfold V
  rw [Nat.mul_assoc, ← Nat.pow_add, show 52 - n.log2 + (1074 - (52 - n.log2)) = E by rw [E_eq]; omega]

theorem read_zero : Ieee.double.read 0 = .number false 0 (-1074 + (0 : Nat)) := by decide
theorem can0 : Can 0 0 := ⟨by omega, by omega, by omega⟩

theorem flr_zero {x : Nat} {s : Bool} (hx : x = wd s 0 0) : flr x = x := by
  rw [flr_small can0 hx (by omega)]
  generalize 2 ^ (1074 - 0) = D
  rw [Nat.zero_div, Nat.zero_mod]
  subst hx
  cases s
  · rfl
  · rfl

/-- 'float64(int64(x))' of a number below 1074 places: towards zero. -/
theorem conv_small {x : Nat} {s : Bool} {M L : Nat} (hc : Can M L) (hx : x = wd s M L) (hL : L < 1074) : floatToIntVal .f64 x .i64 = some (if s then -((M / 2 ^ (1074 - L) : Nat) : Int) else ((M / 2 ^ (1074 - L) : Nat) : Int)) := by
  have hr := read_wd s M L hc
  have hq : M / 2 ^ (1074 - L) ≤ M := Nat.div_le_self _ _
  have hm := hc.1
  unfold floatToIntVal FloatKind.decode Ieee.Datum.toInt
  rw [show FloatKind.f64.format.read x = Ieee.double.read x from rfl, hx, hr, integral_zero s M L hL]
  simp only [Ieee.signed, Nat.shiftLeft_zero]
  have e1 : IntKind.i64.min = -9223372036854775808 := by decide
  have e2 : IntKind.i64.max = 9223372036854775807 := by decide
  rw [e1, e2]
  generalize M / 2 ^ (1074 - L) = q at hq ⊢
  cases s
  · simp only [Bool.false_eq_true, if_false]; rw [if_pos (by omega)]
  · simp only [if_true]; rw [if_pos (by omega)]

theorem conv_big {x : Nat} {s : Bool} {M L : Nat} (hc : Can M L) (hx : x = wd s M L) (hL : 1074 ≤ L) (hlo : -9223372036854775808 ≤ (if s then -((M * 2 ^ (L - 1074) : Nat) : Int) else ((M * 2 ^ (L - 1074) : Nat) : Int))) (hhi : (if s then -((M * 2 ^ (L - 1074) : Nat) : Int) else ((M * 2 ^ (L - 1074) : Nat) : Int)) ≤ 9223372036854775807) :
    floatToIntVal .f64 x .i64 = some (if s then -((M * 2 ^ (L - 1074) : Nat) : Int) else ((M * 2 ^ (L - 1074) : Nat) : Int)) := by
  have hr := read_wd s M L hc
  unfold floatToIntVal FloatKind.decode Ieee.Datum.toInt
  rw [show FloatKind.f64.format.read x = Ieee.double.read x from rfl, hx, hr, integral_big .zero (.inr rfl) s M L hL]
  simp only [Ieee.signed, Nat.shiftLeft_zero]
  have e1 : IntKind.i64.min = -9223372036854775808 := by decide
  have e2 : IntKind.i64.max = 9223372036854775807 := by decide
  rw [e1, e2, if_pos ⟨hlo, hhi⟩]

theorem foi (T : Int) : floatOfInt .f64 T = Ieee.double.nearest (decide (T < 0)) T.natAbs 0 := rfl

/-- Within the ints' range, by the scaled number. -/
theorem V_big {s : Bool} {M L : Nat} (hL : 1074 ≤ L) : V s M L = (if s then -((M * 2 ^ (L - 1074) : Nat) : Int) else ((M * 2 ^ (L - 1074) : Nat) : Int)) * ((2 ^ E : Nat) : Int) := by
  unfold V
  have e : M * 2 ^ L = M * 2 ^ (L - 1074) * 2 ^ E := by rw [Nat.mul_assoc, ← Nat.pow_add, E_eq, Nat.sub_add_cancel hL]
  cases s
  · simp only [Bool.false_eq_true, if_false]; rw [e, Int.natCast_mul]
  · simp only [if_true]; rw [e, Int.natCast_mul, Int.neg_mul]

theorem lt_of_scale {a b : Int} (h : a * ((2 ^ E : Nat) : Int) < b * ((2 ^ E : Nat) : Int)) : a < b :=
  Int.lt_of_mul_lt_mul_right h (Int.natCast_nonneg _)
theorem le_of_scale {a b : Int} (h : a * ((2 ^ E : Nat) : Int) ≤ b * ((2 ^ E : Nat) : Int)) : a ≤ b :=
  Int.le_of_mul_le_mul_right h (Int.natCast_pos.2 PE_pos)

/-- The floor lies not above; how the two stand to each other. -/
theorem flr_order {x : Nat} {s : Bool} {M L : Nat} (hc : Can M L) (hx : x = wd s M L) :
    (FloatKind.f64.format.order (flr x) x = some .lt ∧ FloatKind.f64.format.order x (flr x) = some .gt) ∨ (FloatKind.f64.format.order (flr x) x = some .eq ∧ FloatKind.f64.format.order x (flr x) = some .eq) := by
  have hr := read_wd s M L hc
  rw [← hx] at hr
  have same : flr x = x → (FloatKind.f64.format.order (flr x) x = some .lt ∧ FloatKind.f64.format.order x (flr x) = some .gt) ∨ (FloatKind.f64.format.order (flr x) x = some .eq ∧ FloatKind.f64.format.order x (flr x) = some .eq) := by
    intro h
    rw [h, order_wd hr hr]
    exact .inr ⟨by rw [Int.compare_eq_eq.2 rfl], by rw [Int.compare_eq_eq.2 rfl]⟩
  by_cases hL : 1074 ≤ L
  · exact same (flr_big hc hx hL)
  · replace hL : L < 1074 := by omega
    have hf := flr_small hc hx hL
    have hdm := Nat.div_add_mod M (2 ^ (1074 - L))
    have hpos : 0 < 2 ^ (1074 - L) := Nat.two_pow_pos _
    have hmod := Nat.mod_lt M hpos
    have hle : M / 2 ^ (1074 - L) ≤ M := Nat.div_le_self _ _
    have hM := hc.1
    have hPL : 0 < 2 ^ L := Nat.two_pow_pos _
    have hPE : 2 ^ E = 2 ^ (1074 - L) * 2 ^ L := by rw [← Nat.pow_add, Nat.sub_add_cancel (by omega), E_eq]
    -- the scaled floor, its word
    obtain ⟨Q, hQ⟩ : ∃ Q, Q = M / 2 ^ (1074 - L) + (s && decide (M % 2 ^ (1074 - L) ≠ 0)).toNat := ⟨_, rfl⟩
    rw [← hQ] at hf
    have hQle : Q ≤ M / 2 ^ (1074 - L) + 1 := by rw [hQ]; cases (s && decide (M % 2 ^ (1074 - L) ≠ 0)) <;> simp
    have hQb : Q < 9007199254740992 := by
      have : M / 2 ^ (1074 - L) ≤ M / 2 := Nat.div_le_div_left (by
        have : 2 ^ 1 ≤ 2 ^ (1074 - L) := Nat.pow_le_pow_right (by omega) (by omega)
        omega) (by omega)
      omega
    have key : ∀ {t : Bool} {N K : Nat}, Ieee.double.read (flr x) = .number t N (-1074 + K) → V t N K ≤ V s M L → (FloatKind.f64.format.order (flr x) x = some .lt ∧ FloatKind.f64.format.order x (flr x) = some .gt) ∨ (FloatKind.f64.format.order (flr x) x = some .eq ∧ FloatKind.f64.format.order x (flr x) = some .eq) := by
      intro t N K h1 h2
      rw [order_wd h1 hr, order_wd hr h1]
      rcases Int.lt_or_eq_of_le h2 with h | h
      · exact .inl ⟨by rw [Int.compare_eq_lt.2 h], by rw [Int.compare_eq_gt.2 h]⟩
      · exact .inr ⟨by rw [Int.compare_eq_eq.2 h], by rw [Int.compare_eq_eq.2 h.symm]⟩
    have hV : (if s then -((Q * 2 ^ E : Nat) : Int) else ((Q * 2 ^ E : Nat) : Int)) ≤ V s M L := by
      unfold V
      cases s
      · simp only [Bool.false_eq_true, if_false, Bool.false_and, Bool.toNat_false, Nat.add_zero] at hQ ⊢
        have : Q * 2 ^ E ≤ M * 2 ^ L := by
          rw [hPE, ← Nat.mul_assoc]
          exact Nat.mul_le_mul_right _ (by rw [hQ, Nat.mul_comm]; omega)
        exact Int.ofNat_le.2 this
      · simp only [if_true, Bool.true_and] at hQ ⊢
        have : M * 2 ^ L ≤ Q * 2 ^ E := by
          rw [hPE, ← Nat.mul_assoc]
          refine Nat.mul_le_mul_right _ ?_
          by_cases hz : M % 2 ^ (1074 - L) ≠ 0
          · have hq : Q = M / 2 ^ (1074 - L) + 1 := by rw [hQ]; simp [hz]
            rw [hq, Nat.add_mul, Nat.one_mul, Nat.mul_comm]; omega
          · have hq : Q = M / 2 ^ (1074 - L) := by rw [hQ]; simp at hz; simp [hz]
            rw [hq, Nat.mul_comm]; omega
        have := Int.ofNat_le.2 this
        exact Int.neg_le_neg this
    by_cases h0 : Q = 0
    · by_cases hs : s = false
      · have hf0 : flr x = 0 := by rw [hf, h0, hs]; rfl
        refine key (t := false) (N := 0) (K := 0) (by rw [hf0]; exact read_zero) ?_
        rw [h0, hs] at hV
        rw [hs]
        simpa [V] using hV
      · have hs : s = true := by simpa using hs
        have hM0 : M = 0 := by
          rw [hs] at hQ
          rw [h0] at hQ
          have h12 := Nat.add_eq_zero_iff.1 hQ.symm
          have h1 : M / 2 ^ (1074 - L) = 0 := h12.1
          have h2 : M % 2 ^ (1074 - L) = 0 := by
            by_cases hz : M % 2 ^ (1074 - L) = 0
            · exact hz
            · have h3 := h12.2
              simp [hz] at h3
          rw [h1, h2] at hdm; simpa using hdm.symm
        have hL0 : L = 0 := by
          by_cases h : 0 < L
          · have := hc.2.1 h; omega
          · omega
        exact same (flr_zero (s := s) (by rw [hx, hM0, hL0]))
    · obtain ⟨N, K, c, hcan, _, hn, _, _, _, hv⟩ := nearest_int s Q (by omega) hQb
      rw [← hv] at hV
      exact key (by rw [hf, hn]; exact read_wd s N K hcan) hV
end Go.Proofs.YtfkeklndcjkgcaaGreatDoor.Fl

/-
  OWN WORK. Plain mathematics of 64-bit floats: numbers by their digits and their place, doubled and halved.
-/
namespace Go.Proofs.YtfkeklndcjkgcaaGreatDoor.Fl
open Go

/-- The float of M * 2 ^ (K - 1074). -/
def fl (M K : Nat) : Nat := Ieee.double.nearest false M (-1074 + K)

theorem fl_can (s : Bool) (M K : Nat) (h0 : 0 < M) (h1 : M < 9007199254740992) (hK : K ≤ 2045) : ∃ c, c ≤ K ∧ c ≤ 52 ∧ Can (M * 2 ^ c) (K - c) ∧ Ieee.double.nearest s M (-1074 + K) = wd s (M * 2 ^ c) (K - c) ∧ (c = K ∨ 4503599627370496 ≤ M * 2 ^ c) := by
  have hl : M.log2 ≤ 52 := by have := (Nat.log2_lt (n := M) (k := 53) (by omega)).2 (by omega); omega
  have ha : 2 ^ M.log2 ≤ M := Nat.log2_self_le (by omega)
  have hb : M < 2 ^ (M.log2 + 1) := Nat.lt_log2_self
  obtain ⟨c, hc⟩ : ∃ c, c = min K (52 - M.log2) := ⟨_, rfl⟩
  have hhi : M * 2 ^ c < 9007199254740992 := by
    have := Nat.mul_lt_mul_of_pos_right hb (Nat.two_pow_pos c)
    rw [← Nat.pow_add] at this
    have h2 : 2 ^ (M.log2 + 1 + c) ≤ 2 ^ 53 := Nat.pow_le_pow_right (by omega) (by omega)
    have h3 : (2 : Nat) ^ 53 = 9007199254740992 := by decide
    omega
  have hlo : c = K ∨ 4503599627370496 ≤ M * 2 ^ c := by
    by_cases hk : c = K
    · exact .inl hk
    · refine .inr ?_
      have := Nat.mul_le_mul_right (2 ^ c) ha
      rw [← Nat.pow_add, show M.log2 + c = 52 by omega] at this
      exact this
  have hcan : Can (M * 2 ^ c) (K - c) := ⟨hhi, fun h => by rcases hlo with h' | h' <;> omega, by omega⟩
  exact ⟨c, by omega, by omega, hcan, nearest_up s M c (K - c) h0 hcan _ (by omega), hlo⟩

/-- The same number, its digits spread. -/
theorem near_scale (s : Bool) (M K j : Nat) (h0 : 0 < M) (h1 : M < 9007199254740992) (hK : K ≤ 2045) (p : Int) (hp : p = -1074 + K - j) : Ieee.double.nearest s (M * 2 ^ j) p = Ieee.double.nearest s M (-1074 + K) := by
  obtain ⟨c, hc, _, hcan, he, _⟩ := fl_can s M K h0 h1 hK
  rw [he]
  by_cases hj : c ≤ j
  · have hm : M * 2 ^ j = M * 2 ^ c * 2 ^ (j - c) := by rw [Nat.mul_assoc, ← Nat.pow_add, show c + (j - c) = j by omega]
    rw [hm]
    exact nearest_down s _ _ _ (Nat.mul_pos h0 (Nat.two_pow_pos c)) hcan p (by omega)
  · have hm : M * 2 ^ c = M * 2 ^ j * 2 ^ (c - j) := by rw [Nat.mul_assoc, ← Nat.pow_add, show j + (c - j) = c by omega]
    rw [hm] at hcan ⊢
    exact nearest_up s _ _ _ (Nat.mul_pos h0 (Nat.two_pow_pos j)) hcan p (by omega)

def HALF : Nat := 4602678819172646912
def TWO : Nat := 4611686018427387904
theorem read_half : Ieee.double.read HALF = .number false 4503599627370496 (-53) := by decide
theorem read_two : Ieee.double.read TWO = .number false 4503599627370496 (-51) := by decide

theorem fl_read (M K : Nat) (h0 : 0 < M) (h1 : M < 9007199254740992) (hK : K ≤ 2045) : ∃ c, c ≤ K ∧ c ≤ 52 ∧ Ieee.double.read (fl M K) = .number false (M * 2 ^ c) (-1074 + ((K - c : Nat) : Int)) ∧ (c = K ∨ 4503599627370496 ≤ M * 2 ^ c) := by
  obtain ⟨c, hc, h52, hcan, he, hlo⟩ := fl_can false M K h0 h1 hK
  refine ⟨c, hc, h52, ?_, hlo⟩
  unfold fl
  rw [he]
  exact read_wd _ _ _ hcan

theorem fl_two (M K : Nat) (h0 : 0 < M) (h1 : M < 9007199254740992) (hK : K + 1 ≤ 2045) : FloatKind.f64.format.mul (fl M K) TWO = some (fl M (K + 1)) := by
  obtain ⟨c, hc, _, hr, _⟩ := fl_read M K h0 h1 (by omega)
  show ((Ieee.double.read (fl M K)).product (Ieee.double.read TWO)).map Ieee.double.write = _
  rw [hr, read_two]
  show some (Ieee.double.nearest (false != false) (M * 2 ^ c * 4503599627370496) (-1074 + ((K - c : Nat) : Int) + -51)) = _
  congr 1
  have hm : M * 2 ^ c * 4503599627370496 = M * 2 ^ (c + 52) := by rw [Nat.mul_assoc, show (4503599627370496 : Nat) = 2 ^ 52 by decide, ← Nat.pow_add]
  rw [hm]
  exact near_scale false M (K + 1) (c + 52) h0 h1 hK _ (by omega)

theorem fl_half (M K : Nat) (h0 : 0 < M) (h1 : M < 9007199254740992) (hK : K ≤ 2045) (hk : 1 ≤ K) : FloatKind.f64.format.mul (fl M K) HALF = some (fl M (K - 1)) := by
  obtain ⟨c, hc, _, hr, _⟩ := fl_read M K h0 h1 hK
  show ((Ieee.double.read (fl M K)).product (Ieee.double.read HALF)).map Ieee.double.write = _
  rw [hr, read_half]
  show some (Ieee.double.nearest (false != false) (M * 2 ^ c * 4503599627370496) (-1074 + ((K - c : Nat) : Int) + -53)) = _
  congr 1
  have hm : M * 2 ^ c * 4503599627370496 = M * 2 ^ (c + 52) := by rw [Nat.mul_assoc, show (4503599627370496 : Nat) = 2 ^ 52 by decide, ← Nat.pow_add]
  rw [hm]
  exact near_scale false M (K - 1) (c + 52) h0 h1 (by omega) _ (by omega)

/-- Order against a number that is written out. -/
theorem fl_order (M K : Nat) (h0 : 0 < M) (h1 : M < 9007199254740992) (hK : K ≤ 2045) {y N L : Nat} (hy : Ieee.double.read y = .number false N (-1074 + L)) : FloatKind.f64.format.order (fl M K) y = some (compare ((M * 2 ^ K : Nat) : Int) ((N * 2 ^ L : Nat) : Int)) := by
  obtain ⟨c, hc, _, hr, _⟩ := fl_read M K h0 h1 hK
  rw [order_wd hr hy]
  unfold V
  simp only [Bool.false_eq_true, if_false]
  rw [Nat.mul_assoc, ← Nat.pow_add, show c + (K - c) = K by omega]

def P52 : Nat := 4841369599423283200
def P53 : Nat := 4845873199050653696
theorem read_52 : Ieee.double.read P52 = .number false 4503599627370496 (-1074 + (1074 : Nat)) := by decide
theorem read_53 : Ieee.double.read P53 = .number false 4503599627370496 (-1074 + (1075 : Nat)) := by decide

theorem cmp_of (a b : Nat) : compare (a : Int) (b : Int) = compare a b := by
  simp only [compare, compareOfLessAndEq, Int.ofNat_lt, Int.natCast_inj]

theorem pow_split {a b : Nat} (h : b ≤ a) : (2 : Nat) ^ a = 2 ^ b * 2 ^ (a - b) := by rw [← Nat.pow_add, show b + (a - b) = a by omega]

/-- M digits at place K against 2 ^ 52 at place B. -/
theorem hi_of (M K B : Nat) (hM : 4503599627370496 ≤ M) (hB : B ≤ K) : compare (M * 2 ^ K) (4503599627370496 * 2 ^ B) = .gt ∨ compare (M * 2 ^ K) (4503599627370496 * 2 ^ B) = .eq := by
  have hp := Nat.two_pow_pos B
  have hle : 4503599627370496 * 2 ^ B ≤ M * 2 ^ K := by
    rw [pow_split hB]
    have h2 := Nat.two_pow_pos (K - B)
    have h3 : 4503599627370496 * 2 ^ B ≤ M * 2 ^ B := Nat.mul_le_mul_right _ hM
    have h4 : M * 2 ^ B ≤ M * (2 ^ B * 2 ^ (K - B)) := Nat.mul_le_mul_left _ (Nat.le_mul_of_pos_right _ h2)
    omega
  rcases Nat.lt_or_ge (4503599627370496 * 2 ^ B) (M * 2 ^ K) with h | h
  · exact .inl (Nat.compare_eq_gt.2 h)
  · exact .inr (Nat.compare_eq_eq.2 (Nat.le_antisymm h hle))
theorem lo_of (M K B : Nat) (hM : M < 9007199254740992) (hB : K < B ∨ K = B ∧ M < 4503599627370496) : compare (M * 2 ^ K) (4503599627370496 * 2 ^ B) = .lt := by
  rw [Nat.compare_eq_lt]
  have hp := Nat.two_pow_pos K
  rcases hB with hB | ⟨rfl, hB⟩
  · have h2 : 2 ^ (K + 1) ≤ 2 ^ B := Nat.pow_le_pow_right (by omega) (by omega)
    rw [Nat.pow_succ] at h2
    generalize (2 : Nat) ^ B = D at *
    generalize (2 : Nat) ^ K = A at *
    have h4 : M * A < 9007199254740992 * A := Nat.mul_lt_mul_of_pos_right hM hp
    omega
  · exact Nat.mul_lt_mul_of_pos_right hB hp

theorem ord53_hi {M K : Nat} (h0 : 4503599627370496 ≤ M) (h1 : M < 9007199254740992) (hK : K ≤ 2045) (hk : 1075 ≤ K) : FloatKind.f64.format.order (fl M K) P53 = some .gt ∨ FloatKind.f64.format.order (fl M K) P53 = some .eq := by
  rw [fl_order M K (by omega) h1 hK read_53, cmp_of]
  rcases hi_of M K 1075 h0 hk with h | h
  · exact .inl (congrArg some h)
  · exact .inr (congrArg some h)
theorem ord53_lo {M K : Nat} (h0 : 0 < M) (h1 : M < 9007199254740992) (hk : K ≤ 1074) : FloatKind.f64.format.order (fl M K) P53 = some .lt := by
  rw [fl_order M K h0 h1 (by omega) read_53, cmp_of]
  exact congrArg some (lo_of M K 1075 h1 (.inl (by omega)))
theorem ord52_lo {M K : Nat} (h0 : 0 < M) (h1 : M < 9007199254740992) (hk : K ≤ 1074) (hs : K < 1074 ∨ M < 4503599627370496) : FloatKind.f64.format.order (fl M K) P52 = some .lt := by
  rw [fl_order M K h0 h1 (by omega) read_52, cmp_of]
  exact congrArg some (lo_of M K 1074 h1 (by omega))
theorem ord52_hi {M : Nat} (h0 : 4503599627370496 ≤ M) (h1 : M < 9007199254740992) : FloatKind.f64.format.order (fl M 1074) P52 = some .gt ∨ FloatKind.f64.format.order (fl M 1074) P52 = some .eq := by
  rw [fl_order M 1074 (by omega) h1 (by omega) read_52, cmp_of]
  rcases hi_of M 1074 1074 h0 (Nat.le_refl _) with h | h
  · exact .inl (congrArg some h)
  · exact .inr (congrArg some h)

/-- The word of a number is the float of its digits and its place. -/
theorem fl_wd {M L : Nat} (hM : 0 < M) (h : Can M L) : fl M L = wd false M L := by
  have := nearest_down false M L 0 hM h (-1074 + L) (by omega)
  simpa [fl] using this
theorem wd_false (M L : Nat) : wd false M L = L * 4503599627370496 + M := by simp [wd, Ieee.Format.word]
theorem wd_true (M L : Nat) : wd true M L = 9223372036854775808 + (L * 4503599627370496 + M) := by
  have e1 : Ieee.double.signWeight = 9223372036854775808 := by decide
  simp [wd, Ieee.Format.word, e1]

/-- uint64(f) of a whole number below 2 ^ 53. -/
theorem conv_u64 (M : Nat) (h0 : 0 < M) (h1 : M < 9007199254740992) : floatToIntVal .f64 (fl M 1074) .u64 = some (M : Int) := by
  obtain ⟨c, hc, h52, hr, _⟩ := fl_read M 1074 h0 h1 (by omega)
  unfold floatToIntVal FloatKind.decode Ieee.Datum.toInt
  rw [show FloatKind.f64.format.read (fl M 1074) = Ieee.double.read (fl M 1074) from rfl, hr]
  have e1 : IntKind.u64.min = 0 := by decide
  have e2 : IntKind.u64.max = 18446744073709551615 := by decide
  rcases Nat.eq_zero_or_pos c with h | h
  · subst h
    rw [integral_big .zero (.inr rfl) false _ (1074 - 0) (by omega)]
    simp only [Ieee.signed, Nat.shiftLeft_zero]
    rw [e1, e2]
    simp
    omega
  · rw [integral_zero false _ (1074 - c) (by omega)]
    simp only [Ieee.signed, Nat.shiftLeft_zero]
    rw [e1, e2, show 1074 - (1074 - c) = c by omega, Nat.mul_div_cancel _ (Nat.two_pow_pos c)]
    simp
    omega
theorem of_int (M : Nat) : floatOfInt .f64 (M : Int) = fl M 1074 := by
  rw [foi, show decide ((M : Int) < 0) = false by simp, Int.natAbs_natCast]
  rfl
end Go.Proofs.YtfkeklndcjkgcaaGreatDoor.Fl

/-
  OWN WORK. Plain mathematics of 64-bit floats: the word of a float out of its halvings and doublings.
-/
namespace Go.Proofs.YtfkeklndcjkgcaaGreatDoor.Fl
open Go

theorem near0 (M : Nat) (h0 : 0 < M) (h1 : M < 9007199254740992) : ∃ b, M / 2 + b < M ∧ Ieee.double.nearest false (M * 2 ^ 52) (-1127) = M / 2 + b := by
  have e2 : Ieee.double.binade = 4503599627370496 := by decide
  have e3 : Ieee.double.infRung = 9218868437227405312 := by decide
  have e4 : Ieee.double.leastPlace = -1074 := by decide
  have e5 : Ieee.double.fractionBits = 52 := rfl
  have hl : M.log2 ≤ 52 := by have := (Nat.log2_lt (n := M) (k := 53) (by omega)).2 (by omega); omega
  have hlg : (M * 2 ^ 52).log2 = M.log2 + 52 := log2_mul (by omega)
  obtain ⟨b, hb, hcut⟩ : ∃ b, M / 2 + b < M ∧ Ieee.Toward.even.cut false (M * 2 ^ 52) 53 = M / 2 + b := by
    unfold Ieee.Toward.cut
    dsimp only
    rw [hlg, Nat.min_eq_left (by omega), Nat.one_shiftLeft]
    have d1 : M * 2 ^ 52 / 2 ^ 53 = M / 2 := by
      rw [show (2 : Nat) ^ 53 = 2 ^ 52 * 2 by decide, Nat.mul_comm M, Nat.mul_div_mul_left _ _ (Nat.two_pow_pos 52)]
    rw [d1]
    refine ⟨_, ?_, rfl⟩
    by_cases h3 : 3 ≤ M
    · have := Bool.toNat_le (decide (2 ^ 53 < 2 * (M * 2 ^ 52 % 2 ^ 53)) || (2 ^ 53 == 2 * (M * 2 ^ 52 % 2 ^ 53) && M / 2 % 2 == 1))
      omega
    · have h12 : M = 1 ∨ M = 2 := by omega
      rcases h12 with rfl | rfl <;> decide
  refine ⟨b, hb, ?_⟩
  unfold Ieee.Format.nearest
  rw [if_neg (Nat.mul_ne_zero (by omega) (by decide)), hlg, e2, e3, e4, e5]
  have hlast : max ((-1127 : Int) + ((M.log2 + 52 : Nat) : Int) - (52 : Nat)) (-1074) = -1074 := by omega
  simp only [hlast]
  rw [show ((-1127 : Int) - -1074).toNat = 0 by decide, show ((-1074 : Int) - -1127).toNat = 53 by decide, Nat.shiftLeft_zero, hcut]
  simp only [Ieee.Format.word, Bool.false_eq_true, if_false]
  rw [show ((-1074 : Int) - -1074).toNat = 0 by decide, Nat.zero_mul, Nat.zero_add]
  exact Nat.min_eq_left (by omega)

/-- A float that is halved is another one. -/
theorem half_ne (M K : Nat) (h0 : 0 < M) (h1 : M < 9007199254740992) (hK : K ≤ 2045) : ∃ y, FloatKind.f64.format.mul (fl M K) HALF = some y ∧ FloatKind.f64.format.order y (fl M K) = some .lt := by
  by_cases hk : 1 ≤ K
  · refine ⟨_, fl_half M K h0 h1 hK hk, ?_⟩
    obtain ⟨c, hc, _, hr, _⟩ := fl_read M K h0 h1 hK
    rw [fl_order M (K - 1) h0 h1 (by omega) hr, cmp_of]
    congr 1
    rw [Nat.compare_eq_lt, Nat.mul_assoc, ← Nat.pow_add, show c + (K - c) = K by omega]
    exact Nat.mul_lt_mul_of_pos_left (Nat.pow_lt_pow_right (by omega) (by omega)) h0
  · have : K = 0 := by omega
    subst this
    have hc : Can M 0 := ⟨h1, by omega, by omega⟩
    have hr : Ieee.double.read (fl M 0) = .number false M (-1074 + ((0 : Nat) : Int)) := by rw [fl_wd h0 hc]; exact read_wd false M 0 hc
    obtain ⟨b, hb, hn⟩ := near0 M h0 h1
    refine ⟨M / 2 + b, ?_, ?_⟩
    · show ((Ieee.double.read (fl M 0)).product (Ieee.double.read HALF)).map Ieee.double.write = _
      rw [hr, read_half]
      exact congrArg some hn
    · have hc2 : Can (M / 2 + b) 0 := ⟨by omega, by omega, by omega⟩
      have hr2 := read_wd false _ 0 hc2
      rw [wd_false, Nat.zero_mul, Nat.zero_add] at hr2
      rw [order_wd hr2 hr]
      congr 1
      unfold V
      simp only [Bool.false_eq_true, if_false, Nat.pow_zero, Nat.mul_one]
      rw [cmp_of, Nat.compare_eq_lt]
      exact hb

theorem read_0 : Ieee.double.read 0 = .number false 0 (-1074 + ((0 : Nat) : Int)) := by decide
theorem ord0_pos {M L : Nat} (h0 : 0 < M) (h : Can M L) : FloatKind.f64.format.order (wd false M L) 0 = some .gt := by
  rw [order_wd (read_wd false M L h) read_0]
  congr 1
  unfold V
  simp only [Bool.false_eq_true, if_false, Nat.zero_mul]
  rw [cmp_of, Nat.compare_eq_gt]
  exact Nat.mul_pos h0 (Nat.two_pow_pos L)
theorem ord0_neg {M L : Nat} (h0 : 0 < M) (h : Can M L) : FloatKind.f64.format.order (wd true M L) 0 = some .lt := by
  rw [order_wd (read_wd true M L h) read_0]
  congr 1
  unfold V
  simp only [Bool.false_eq_true, if_false, if_true, Nat.zero_mul]
  have := Nat.mul_pos h0 (Nat.two_pow_pos L)
  rw [Int.compare_eq_lt]
  omega
theorem neg_wd {M L : Nat} (h : Can M L) : Op.negFloat .f64 (wd true M L) = wd false M L := by
  obtain ⟨h1, h2, h3⟩ := h
  rw [wd_true, wd_false]
  show (9223372036854775808 + (L * 4503599627370496 + M)) ^^^ 2 ^ 63 = _
  have hlt : L * 4503599627370496 + M < 2 ^ 63 := by simp only [show (2 : Nat) ^ 63 = 9223372036854775808 from rfl]; omega
  have e : 9223372036854775808 + (L * 4503599627370496 + M) = (L * 4503599627370496 + M) ^^^ 2 ^ 63 := by
    apply Nat.eq_of_testBit_eq
    intro i
    rw [show (9223372036854775808 : Nat) = 2 ^ 63 * 1 by decide, Nat.testBit_two_pow_mul_add _ hlt, Nat.testBit_xor, Nat.testBit_two_pow]
    split
    · rename_i hi
      simp [show ¬ 63 = i by omega]
    · rename_i hi
      rw [Nat.testBit_lt_two_pow (Nat.lt_of_lt_of_le hlt (Nat.pow_le_pow_right (by omega) (by omega)))]
      by_cases h63 : 63 = i
      · subst h63; decide
      · obtain ⟨j, rfl⟩ : ∃ j, i = 64 + j := ⟨i - 64, by omega⟩
        rw [show 64 + j - 63 = j + 1 by omega, Nat.testBit_succ]
        simp [show ¬ 63 = 64 + j by omega]
  rw [e, Nat.xor_assoc, Nat.xor_self, Nat.xor_zero]

/-- The sign and the rest. -/
theorem or_sign (r : Nat) (h : r < 9223372036854775808) : bits .or .u64 9223372036854775808 (r : Int) = ((9223372036854775808 + r : Nat) : Int) := by
  have := u64_or_nat 9223372036854775808 r (by omega) (by omega)
  rw [nat_join 63 9223372036854775808 r (by decide) (by simpa using h)] at this
  exact this
theorem or_zero (r : Nat) (h : r < 18446744073709551616) : bits .or .u64 0 (r : Int) = (r : Int) := by
  have := u64_or_nat 0 r (by omega) (by omega)
  simpa using this
theorem or_exp (a r : Nat) (ha : a < 4096) (h : r < 4503599627370496) : bits .or .u64 ((a * 4503599627370496 : Nat) : Int) (r : Int) = ((a * 4503599627370496 + r : Nat) : Int) := by
  have := u64_or_nat (a * 4503599627370496) r (by omega) (by omega)
  rw [nat_join 52 (a * 4503599627370496) r (Nat.mul_mod_left _ _) (by simpa using h)] at this
  exact this
end Go.Proofs.YtfkeklndcjkgcaaGreatDoor.Fl
