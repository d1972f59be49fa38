/-
  OWN WORK. Plain mathematics of 64-bit floats over the model's own reading and writing: canonical numbers, order, floors.
-/
import Derived.Laws.FloatArith
namespace Go.Proofs.Ytkipmogmejfmcaa.Fl
open Go

/-- A canonical number: its digits and how far its place lies above the least. -/
def Can (M L : Nat) : Prop := M < 9007199254740992 ∧ (0 < L → 4503599627370496 ≤ M) ∧ L ≤ 2045

def wd (s : Bool) (M L : Nat) : Nat := Ieee.double.word s (L * 4503599627370496 + M)

theorem read_wd (s : Bool) (M L : Nat) (h : Can M L) : Ieee.double.read (wd s M L) = .number s M (-1074 + L) := by
  obtain ⟨h1, h2, h3⟩ := h
  have e1 : Ieee.double.signWeight = 9223372036854775808 := by decide
  have e2 : Ieee.double.binade = 4503599627370496 := by decide
  have e3 : Ieee.double.infRung = 9218868437227405312 := by decide
  have e4 : Ieee.double.leastPlace = -1074 := by decide
  unfold wd Ieee.Format.read Ieee.Format.word
  rw [e1, e2, e3, e4]
  have hs : ((if s = true then 9223372036854775808 + (L * 4503599627370496 + M) else L * 4503599627370496 + M) / 9223372036854775808 % 2 == 1) = s := by
    cases s <;> simp <;> omega
  have hr : (if s = true then 9223372036854775808 + (L * 4503599627370496 + M) else L * 4503599627370496 + M) % 9223372036854775808 = L * 4503599627370496 + M := by
    cases s <;> simp <;> omega
  simp only [hs, hr]
  by_cases hl : L * 4503599627370496 + M < 4503599627370496
  · rw [if_pos hl]
    have : L = 0 := by omega
    subst this; simp
  · rw [if_neg hl, if_pos (by omega)]
    have hq : 4503599627370496 + (L * 4503599627370496 + M) % 4503599627370496 = M := by omega
    have hp : (L * 4503599627370496 + M) / 4503599627370496 - 1 = L := by omega
    rw [hq, hp]

theorem read_cases (x : Nat) (hx : x < 18446744073709551616) :
    (∃ s M L, Can M L ∧ x = wd s M L ∧ Ieee.double.read x = .number s M (-1074 + L)) ∨ (∃ s, Ieee.double.read x = .infinity s) ∨ (∃ s t, Ieee.double.read x = .nan s t) := by
  have e1 : Ieee.double.signWeight = 9223372036854775808 := by decide
  have e2 : Ieee.double.binade = 4503599627370496 := by decide
  have e3 : Ieee.double.infRung = 9218868437227405312 := by decide
  by_cases h : x % 9223372036854775808 < 9218868437227405312
  · refine .inl ?_
    obtain ⟨s, hs⟩ : ∃ s : Bool, x = (if s then 9223372036854775808 + x % 9223372036854775808 else x % 9223372036854775808) := by
      by_cases hb : x < 9223372036854775808
      · exact ⟨false, by simp; omega⟩
      · exact ⟨true, by simp; omega⟩
    by_cases hl : x % 9223372036854775808 < 4503599627370496
    · have hc : Can (x % 9223372036854775808) 0 := ⟨by omega, by omega, by omega⟩
      have hw : x = wd s (x % 9223372036854775808) 0 := by
        unfold wd Ieee.Format.word; rw [e1]; cases s <;> simp at hs ⊢ <;> omega
      have hr := read_wd s _ 0 hc
      rw [← hw] at hr
      exact ⟨s, _, 0, hc, hw, hr⟩
    · let M := 4503599627370496 + x % 9223372036854775808 % 4503599627370496
      let L := x % 9223372036854775808 / 4503599627370496 - 1
      have hc : Can M L := ⟨by omega, by omega, by omega⟩
      have hw : x = wd s M L := by
        unfold wd Ieee.Format.word; rw [e1]; cases s <;> simp at hs ⊢ <;> omega
      exact ⟨s, M, L, hc, hw, by rw [hw]; exact read_wd s M L hc⟩
  · unfold Ieee.Format.read
    rw [e1, e2, e3]
    dsimp only
    rw [if_neg (by omega), if_neg h]
    by_cases hi : x % 9223372036854775808 = 9218868437227405312
    · rw [if_pos hi]; exact .inr (.inl ⟨_, rfl⟩)
    · rw [if_neg hi]; exact .inr (.inr ⟨_, _, rfl⟩)

theorem log2_mul {m c : Nat} (h : m ≠ 0) : (m * 2 ^ c).log2 = m.log2 + c := by
  have hp : 0 < 2 ^ c := Nat.two_pow_pos c
  have hn : m * 2 ^ c ≠ 0 := Nat.mul_ne_zero h (by omega)
  rw [Nat.log2_eq_iff hn]
  constructor
  · rw [Nat.pow_add]; exact Nat.mul_le_mul_right _ (Nat.log2_self_le h)
  · rw [show m.log2 + c + 1 = m.log2 + 1 + c by omega, Nat.pow_add]
    exact Nat.mul_lt_mul_of_pos_right Nat.lt_log2_self hp

theorem last_of {M L : Nat} (hM : 0 < M) (h : Can M L) : max (-1074 + (L : Int) + (M.log2 : Int) - 52) (-1074) = -1074 + L := by
  obtain ⟨h1, h2, h3⟩ := h
  have hle : M.log2 < 53 := (Nat.log2_lt (by omega)).2 (by omega)
  by_cases hl : 0 < L
  · have : 52 ≤ M.log2 := (Nat.le_log2 (by omega)).2 (by have := h2 hl; omega)
    omega
  · omega

theorem nearest_down (s : Bool) (M L c : Nat) (hM : 0 < M) (h : Can M L) (p : Int) (hp : p = -1074 + L - c) : Ieee.double.nearest s (M * 2 ^ c) p = wd s M L := by
  have e2 : Ieee.double.binade = 4503599627370496 := by decide
  have e3 : Ieee.double.infRung = 9218868437227405312 := by decide
  have e4 : Ieee.double.leastPlace = -1074 := by decide
  have e5 : Ieee.double.fractionBits = 52 := rfl
  have hpos : 0 < 2 ^ c := Nat.two_pow_pos c
  have hl := last_of hM h
  unfold Ieee.Format.nearest
  rw [if_neg (Nat.mul_ne_zero (by omega) (by omega)), log2_mul (by omega), e2, e3, e4, e5]
  have hlast : max (p + ((M.log2 + c : Nat) : Int) - (52 : Nat)) (-1074) = -1074 + L := by rw [← hl]; congr 1; omega
  simp only [hlast]
  have t1 : (p - (-1074 + (L : Int))).toNat = 0 := by omega
  have t2 : (-1074 + (L : Int) - p).toNat = c := by omega
  rw [t1, t2, Nat.shiftLeft_zero]
  have hcut : Ieee.Toward.even.cut s (M * 2 ^ c) c = M := by
    unfold Ieee.Toward.cut
    dsimp only
    rw [log2_mul (by omega), Nat.min_eq_left (by omega), Nat.one_shiftLeft, Nat.mul_div_cancel _ hpos, Nat.mul_mod_left]
    have h2 : (2 ^ c == 2 * 0) = false := by simp
    simp [h2]
  rw [hcut]
  have t3 : (-1074 + (L : Int) - -1074).toNat = L := by omega
  obtain ⟨h1, h2, h3⟩ := h
  rw [t3, Nat.min_eq_left (by omega)]
  rfl

theorem nearest_up (s : Bool) (m c L : Nat) (hm : 0 < m) (h : Can (m * 2 ^ c) L) (p : Int) (hp : p = -1074 + L + c) : Ieee.double.nearest s m p = wd s (m * 2 ^ c) L := by
  have e2 : Ieee.double.binade = 4503599627370496 := by decide
  have e3 : Ieee.double.infRung = 9218868437227405312 := by decide
  have e4 : Ieee.double.leastPlace = -1074 := by decide
  have e5 : Ieee.double.fractionBits = 52 := rfl
  have hpos : 0 < 2 ^ c := Nat.two_pow_pos c
  have hl := last_of (Nat.mul_pos hm hpos) h
  rw [log2_mul (by omega)] at hl
  unfold Ieee.Format.nearest
  rw [if_neg (by omega), e2, e3, e4, e5]
  have hlast : max (p + (m.log2 : Int) - (52 : Nat)) (-1074) = -1074 + L := by rw [← hl]; congr 1; omega
  simp only [hlast]
  have t1 : (p - (-1074 + (L : Int))).toNat = c := by omega
  have t2 : (-1074 + (L : Int) - p).toNat = 0 := by omega
  rw [t1, t2]
  have hcut : Ieee.Toward.even.cut s (m <<< c) 0 = m * 2 ^ c := by
    unfold Ieee.Toward.cut
    dsimp only
    rw [Nat.zero_min, Nat.shiftLeft_eq m]
    simp [Nat.mod_one]
  rw [hcut]
  have t3 : (-1074 + (L : Int) - -1074).toNat = L := by omega
  obtain ⟨h1, h2, h3⟩ := h
  rw [t3, Nat.min_eq_left (by omega)]
  rfl

/-! Order, by one scale for all: a number times 2 ^ 1074 is whole. -/
def V (s : Bool) (M L : Nat) : Int := if s then -((M * 2 ^ L : Nat) : Int) else ((M * 2 ^ L : Nat) : Int)

theorem compare_scale (a b c : Int) (hc : 0 < c) : compare (a * c) (b * c) = compare a b := by
  rcases Int.lt_trichotomy a b with h | h | h
  · rw [Int.compare_eq_lt.2 h, Int.compare_eq_lt.2 (Int.mul_lt_mul_of_pos_right h hc)]
  · subst h; rw [Int.compare_eq_eq.2 rfl, Int.compare_eq_eq.2 rfl]
  · rw [Int.compare_eq_gt.2 h, Int.compare_eq_gt.2 (Int.mul_lt_mul_of_pos_right h hc)]

theorem signed_scale (s : Bool) (M L b : Nat) (h : b ≤ L) : Ieee.signed s M (L - b) * ((2 ^ b : Nat) : Int) = V s M L := by
  unfold Ieee.signed V
  have e : M <<< (L - b) * 2 ^ b = M * 2 ^ L := by
    rw [Nat.shiftLeft_eq, Nat.mul_assoc, ← Nat.pow_add, Nat.sub_add_cancel h]
  cases s
  · simp only [Bool.false_eq_true, if_false]; rw [← Int.natCast_mul, e]
  · simp only [if_true]; rw [Int.neg_mul, ← Int.natCast_mul, e]

theorem order_num (s t : Bool) (M N L K : Nat) : Ieee.Datum.order (.number s M (-1074 + L)) (.number t N (-1074 + K)) = some (compare (V s M L) (V t N K)) := by
  simp only [Ieee.Datum.order, Option.some.injEq]
  have h1 : (-1074 + (L : Int) - min (-1074 + (L : Int)) (-1074 + (K : Int))).toNat = L - min L K := by omega
  have h2 : (-1074 + (K : Int) - min (-1074 + (L : Int)) (-1074 + (K : Int))).toNat = K - min L K := by omega
  rw [h1, h2, ← signed_scale s M L (min L K) (Nat.min_le_left _ _), ← signed_scale t N K (min L K) (Nat.min_le_right _ _)]
  exact (compare_scale _ _ _ (by have := Nat.two_pow_pos (min L K); omega)).symm

theorem order_wd {x y : Nat} {s t : Bool} {M N L K : Nat} (hx : Ieee.double.read x = .number s M (-1074 + L)) (hy : Ieee.double.read y = .number t N (-1074 + K)) : FloatKind.f64.format.order x y = some (compare (V s M L) (V t N K)) := by
  show (Ieee.double.read x).order (Ieee.double.read y) = _
  rw [hx, hy, order_num]
end Go.Proofs.Ytkipmogmejfmcaa.Fl
