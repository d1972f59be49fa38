/-
  OWN WORK. Strings held against each other: the loop and the library's way.
-/
import Derived.Test.YtkipmogmejfmcaaBase
import Derived.Deep.QuietTactic
import Derived.BigQuiet
namespace Go.Proofs.Ytkipmogmejfmcaa
open Go.RowKit
set_option linter.unusedVariables false

/-- How two rows of bytes stand to each other. -/
def scmp : List UInt8 → List UInt8 → Int
  | [], [] => 0
  | [], _ :: _ => -1
  | _ :: _, [] => 1
  | x :: a, y :: b => if x < y then -1 else if y < x then 1 else scmp a b

theorem scmp_less (a b : List UInt8) : Op.bytesLess a b = true ↔ scmp a b = -1 := by
  induction a generalizing b with
  | nil => cases b <;> simp [Op.bytesLess, scmp]
  | cons x a ih =>
    cases b with
    | nil => simp [Op.bytesLess, scmp]
    | cons y b =>
      simp only [Op.bytesLess, scmp, Bool.or_eq_true, decide_eq_true_eq, Bool.and_eq_true, beq_iff_eq, ih]
      by_cases h1 : x < y
      · simp [h1]
      · by_cases h2 : y < x
        · have : x ≠ y := fun e => by subst e; exact h1 h2
          simp [h1, h2, this]
        · have : x = y := by
            have := UInt8.le_antisymm (UInt8.not_lt.1 h2) (UInt8.not_lt.1 h1)
            exact this
          simp [this]

theorem scmp_eq (a b : List UInt8) : a = b ↔ scmp a b = 0 := by
  induction a generalizing b with
  | nil => cases b <;> simp [scmp]
  | cons x a ih =>
    cases b with
    | nil => simp [scmp]
    | cons y b =>
      simp only [scmp, List.cons.injEq, ih]
      by_cases h1 : x < y
      · have : x ≠ y := fun e => by subst e; exact absurd h1 (UInt8.lt_irrefl _)
        simp [h1, this]
      · by_cases h2 : y < x
        · have : x ≠ y := fun e => by subst e; exact h1 h2
          simp [h1, h2, this]
        · have : x = y := UInt8.le_antisymm (UInt8.not_lt.1 h2) (UInt8.not_lt.1 h1)
          simp [this]

theorem scmp_three (a b : List UInt8) : scmp a b = -1 ∨ scmp a b = 0 ∨ scmp a b = 1 := by
  induction a generalizing b with
  | nil => cases b <;> simp [scmp]
  | cons x a ih =>
    cases b with
    | nil => simp [scmp]
    | cons y b =>
      simp only [scmp]
      split
      · simp
      · split
        · simp
        · exact ih b

theorem drop_cons (a : ByteArray) (k : Nat) (h : k < a.size) : a.data.toList.drop k = a[k] :: a.data.toList.drop (k + 1) := by
  rw [List.drop_eq_getElem_cons (by simpa using h)]; rfl
theorem drop_end (a : ByteArray) (k : Nat) (h : a.size ≤ k) : a.data.toList.drop k = [] := List.drop_of_length_le (by simpa using h)
theorem below_drw (B : Nat) (w : World) (n : Nat) : Below B w (w.drewN n) := ⟨rfl, rfl, rfl, Nat.le_refl _, fun _ _ => rfl⟩
theorem ret_i {a b : Int} (h : a = b) : Ending.returned (.int .i64 a) = .returned (.int .i64 b) := by rw [h]

set_option maxRecDepth 20000 in
set_option maxHeartbeats 1000000 in
theorem strs_any (a b : ByteArray) (w : World) (ha : a.size ≤ maxLen) (hb : b.size ≤ maxLen) : Calls Try.prog 59 #[.string a, .string b] w fun e w' => e = .returned (.int .i64 (scmp a.data.toList b.data.toList)) ∧ Below w.heap.size w w' := by
  unfold maxLen at ha hb
  go_enter Try.func59, Try.ntmps59
  go_wp2
  go_loopw [5] (fun i wr => ∃ k : Nat, k ≤ a.size ∧ k ≤ b.size ∧ i = .int .i64 k ∧ Hid (scmp (a.data.toList.drop k) (b.data.toList.drop k) = scmp a.data.toList b.data.toList) ∧ Below w.heap.size w wr) (fun i _ => a.size - (intOf i).toNat)
  case atStart => exact ⟨0, Nat.zero_le _, Nat.zero_le _, rfl, rfl, Below.refl _ _⟩
  case round =>
    obtain ⟨k, hka, hkb, rfl, hH, hB⟩ := hrel
    by_cases h1 : k < a.size
    · by_cases h2 : k < b.size
      · have e1 := drop_cons a k h1
        have e2 := drop_cons b k h2
        have HH : Hid ((if a[k] < b[k] then -1 else if b[k] < a[k] then 1 else scmp (a.data.toList.drop (k + 1)) (b.data.toList.drop (k + 1))) = scmp a.data.toList b.data.toList) := by
          have := hH.out; rw [e1, e2] at this; exact this
        clear e1 e2 hH
        by_cases h3 : (a[k].toNat : Int) < (b[k].toNat : Int)
        · have h3' : a[k] < b[k] := UInt8.lt_iff_toNat_lt.2 (by omega)
          have HR : Hid (-1 = scmp a.data.toList b.data.toList) := by have := HH.out; rw [if_pos h3'] at this; exact this
          clear HH h3'
          go_wp2_with fail
          go_quiet (fail)
          go_wp2_with fail
          go_ret
          exact ⟨ret_i HR.out, hB.trans (below_drw _ _ _)⟩
        · by_cases h4 : (b[k].toNat : Int) < (a[k].toNat : Int)
          · have h3' : ¬ a[k] < b[k] := fun h => h3 (by have := UInt8.lt_iff_toNat_lt.1 h; omega)
            have h4' : b[k] < a[k] := UInt8.lt_iff_toNat_lt.2 (by omega)
            have HR : Hid (1 = scmp a.data.toList b.data.toList) := by have := HH.out; rw [if_neg h3', if_pos h4'] at this; exact this
            clear HH h3' h4'
            go_wp2_with fail
            go_quiet (fail)
            go_wp2_with fail
            go_quiet (fail)
            go_wp2_with fail
            go_ret
            exact ⟨ret_i HR.out, by first | exact hB.trans (below_drw _ _ _) | exact (hB.trans (below_drw _ _ _)).trans (below_drw _ _ _)⟩
          · have h3' : ¬ a[k] < b[k] := fun h => h3 (by have := UInt8.lt_iff_toNat_lt.1 h; omega)
            have h4' : ¬ b[k] < a[k] := fun h => h4 (by have := UInt8.lt_iff_toNat_lt.1 h; omega)
            have HR : Hid (scmp (a.data.toList.drop (k + 1)) (b.data.toList.drop (k + 1)) = scmp a.data.toList b.data.toList) := by have := HH.out; rw [if_neg h3', if_neg h4'] at this; exact this
            clear HH h3' h4'
            go_wp2_with fail
            go_quiet (fail)
            go_wp2_with fail
            go_quiet (fail)
            go_wp2_with fail
            go_roundw
            case rel => exact ⟨k + 1, by omega, by omega, by go_num, HR, by first | exact hB.trans (below_drw _ _ _) | exact (hB.trans (below_drw _ _ _)).trans (below_drw _ _ _)⟩
            case measure => simp [intOf]; omega
      · have HR : Hid (1 = scmp a.data.toList b.data.toList) := by
          have := hH.out; rw [drop_cons a k h1, drop_end b k (by omega)] at this; exact this
        clear hH
        have hlt : (b.size : Int) < (a.size : Int) := by omega
        go_wp2_with fail
        go_ret
        exact ⟨ret_i HR.out, hB⟩
    · by_cases h2 : k < b.size
      · have HR : Hid (-1 = scmp a.data.toList b.data.toList) := by
          have := hH.out; rw [drop_end a k (by omega), drop_cons b k h2] at this; exact this
        clear hH
        have hlt : (a.size : Int) < (b.size : Int) := by omega
        go_wp2_with fail
        go_ret
        exact ⟨ret_i HR.out, hB⟩
      · have HR : Hid (0 = scmp a.data.toList b.data.toList) := by
          have := hH.out; rw [drop_end a k (by omega), drop_end b k (by omega)] at this; exact this
        clear hH
        have hl1 : ¬ (a.size : Int) < (b.size : Int) := by omega
        have hl2 : ¬ (b.size : Int) < (a.size : Int) := by omega
        go_wp2_with fail
        go_ret
        exact ⟨ret_i HR.out, hB⟩

set_option maxHeartbeats 400000 in
theorem icmp_str (a b : ByteArray) (w : World) : Calls Try.prog 96 #[.string a, .string b] w fun e w' => e = .returned (.int .i64 (scmp a.toList b.toList)) ∧ w' = w := by
  rcases scmp_three a.toList b.toList with h | h | h
  · have h1 : Op.bytesLess a.toList b.toList = true := (scmp_less _ _).2 h
    have H : Hid (scmp a.toList b.toList = -1) := h
    clear h
    go_enter Try.func96, Try.ntmps96
    go_wp2
    go_ret
    exact ⟨ret_i H.out.symm, rfl⟩
  · have h1 : Op.bytesLess a.toList b.toList = false := by
      cases hq : Op.bytesLess a.toList b.toList
      · rfl
      · have := (scmp_less _ _).1 hq; omega
    have h2 : (a.toList == b.toList) = true := by simpa using (scmp_eq a.toList b.toList).2 h
    have H : Hid (scmp a.toList b.toList = 0) := h
    clear h
    go_enter Try.func96, Try.ntmps96
    go_wp2
    go_ret
    exact ⟨ret_i H.out.symm, rfl⟩
  · have h1 : Op.bytesLess a.toList b.toList = false := by
      cases hq : Op.bytesLess a.toList b.toList
      · rfl
      · have := (scmp_less _ _).1 hq; omega
    have h2 : (a.toList == b.toList) = false := by
      have : a.toList ≠ b.toList := fun e => by have := (scmp_eq a.toList b.toList).1 e; omega
      simpa using this
    have H : Hid (scmp a.toList b.toList = 1) := h
    clear h
    go_enter Try.func96, Try.ntmps96
    go_wp2
    go_ret
    exact ⟨ret_i H.out.symm, rfl⟩
end Go.Proofs.Ytkipmogmejfmcaa
