/-
  OWN WORK. The specification's numerals.
-/
import Derived.Test.YtfkeklndcjkgcaaGreatDoorLDat
import Derived.Test.YtfkeklndcjkgcaaGreatDoorCTo
import Derived.Laws.Concat
import Derived.Laws.BytesArg
import Derived.Laws.IdiomStrings
namespace Go.Proofs.YtfkeklndcjkgcaaGreatDoor
open Go.RowKit
set_option linter.unusedVariables false
set_option linter.unusedSimpArgs false

theorem dec_small {v : Nat} (h : v < 10) : Lib.decDigits v = [UInt8.ofNat (48 + v)] := Lib.decDigits_one h
theorem dec_big {v : Nat} (h : ¬ v < 10) : Lib.decDigits v = Lib.decDigits (v / 10) ++ [UInt8.ofNat (48 + v % 10)] := by rw [Lib.decDigits, dif_neg h]
theorem dec_len (u : Nat) (h : u < 10000000000000000000) : (Lib.decDigits u).length ≤ 19 := dec_le 18 u h

/-- A string of one byte, off a new list of bytes. -/
theorem one_byte (z : Int) (d : UInt8) (hd : d = UInt8.ofNat z.toNat) (w : World) : (convert 33 9 (.slice (some ⟨w.heap.size, 0, none⟩) 1 1)).run Tryz.prog (w.alloc (.cells #[.int .u8 z] 5)) = .ok (.string (sOf [d])) (w.alloc (.cells #[.int .u8 z] 5)) := by
  refine (run_convert_bytes_arg _ 33 5 Tryz.underlying33 Tryz.underlying5 w.heap.size 0 1 1 [z] rfl (fun i hi => ?_) 9 Tryz.underlying9).trans ?_
  · obtain rfl : i = 0 := by omega
    rw [blk_cell (blk_new _ _)]; rfl
  · simp [strOfNums, sOf, hd]

theorem app1 (c : UInt8) (l : List UInt8) : sOf [c] ++ sOf l = sOf (c :: l) := sOf_app [c] l
theorem not_long {a b : List UInt8} (h : a.length + b.length ≤ 1000000000) : ¬ 9223372036854775807 < (sOf a).size + (sOf b).size := by rw [sOf_size, sOf_size]; omega

set_option maxRecDepth 20000 in
set_option maxHeartbeats 4000000 in
theorem dec_nat (u : Nat) (hu : u ≤ 9223372036854775807) (w : World) : Calls Tryz.prog 23 #[.int .i64 (u : Int)] w fun e w' => e = .returned (.string (sOf (Lib.decDigits u))) ∧ Below w.heap.size w w' := by
  have n1 : ((u : Int) == -9223372036854775808) = false := by simp
  have n2 : ¬ ((u : Int) < 0) := by omega
  go_enter Tryz.func23, Tryz.ntmps23
  go_wp2_with fail
  rw [show ({ data := #[] } : ByteArray) = sOf [] from rfl]
  go_loopw [0, 3] (fun n o wr => ∃ (v : Nat) (l : List UInt8), v ≤ u ∧ n = .int .i64 (v : Int) ∧ o = .string (sOf l) ∧ Hid (Lib.decDigits u = Lib.decDigits v ++ l) ∧ Below w.heap.size w wr) (fun n _ _ => (intOf n).toNat)
  case atStart => exact ⟨u, [], Nat.le_refl _, rfl, rfl, by show _ = _; simp, Below.refl _ _⟩
  case round =>
    obtain ⟨v, l, hv, rfl, rfl, HD, hB⟩ := hrel
    have hll : l.length ≤ 19 := by
      have h1 := dec_len u (by omega)
      rw [HD.out, List.length_append] at h1
      omega
    obtain ⟨d, hd⟩ : ∃ d, d = UInt8.ofNat (48 + v % 10) := ⟨_, rfl⟩
    have hcv := one_byte (48 + (v : Int) % 10) d (by rw [hd]; congr 1) wr
    have hB2 := hB.trans ((bw1 wr (.cells #[.int .u8 (48 + (v : Int) % 10)] 5)).mono hB.size)
    have hsz : ¬ 9223372036854775807 < (sOf [d]).size + (sOf l).size := not_long (by simp only [List.length_singleton]; omega)
    have e3 := app1 d l
    by_cases hs : v < 10
    · have HE : Hid (Lib.decDigits u = d :: l) := by
        show _ = _
        rw [HD.out, dec_small hs, hd, Nat.mod_eq_of_lt hs]; rfl
      have q0 : (v : Int) / 10 = 0 := by omega
      clear HD hd hll hv
      go_wp2_with fail
      go_ret
      exact ⟨by rw [HE.out]; rfl, hB2⟩
    · have HE : Hid (Lib.decDigits u = Lib.decDigits (v / 10) ++ (d :: l)) := by
        show _ = _
        rw [HD.out, dec_big hs, hd]; simp
      obtain ⟨q, hq⟩ : ∃ q, q = v / 10 := ⟨_, rfl⟩
      have q0 : (v : Int) / 10 = (q : Int) := by omega
      have q1 : ¬ (q : Int) = 0 := by omega
      have hqv : q < v := by omega
      rw [← hq] at HE
      clear HD hd hll hq
      go_wp2_with fail
      go_roundw
      case rel => exact ⟨q, d :: l, by omega, rfl, rfl, HE, hB2⟩
      case measure => simp [intOf]; omega

theorem itoa_min : sOf (Lib.itoa (-9223372036854775808)) = { data := #[45, 57, 50, 50, 51, 51, 55, 50, 48, 51, 54, 56, 53, 52, 55, 55, 53, 56, 48, 56] } := by decide +kernel
theorem itoa_nn (u : Nat) : Lib.itoa (u : Int) = Lib.decDigits u := by unfold Lib.itoa; rw [if_neg (by omega)]; simp
theorem itoa_ng (u : Nat) (h : 1 ≤ u) : Lib.itoa (-(u : Int)) = 45 :: Lib.decDigits u := by unfold Lib.itoa; rw [if_pos (by omega)]; simp

set_option maxRecDepth 20000 in
set_option maxHeartbeats 4000000 in
/-- A number's decimal text. -/
theorem dec_any (n : Int) (h0 : -9223372036854775808 ≤ n) (h1 : n ≤ 9223372036854775807) (w : World) : Calls Tryz.prog 23 #[.int .i64 n] w fun e w' => e = .returned (.string (sOf (Lib.itoa n))) ∧ Below w.heap.size w w' := by
  by_cases hm : n = -9223372036854775808
  · subst hm
    rw [itoa_min]
    go_enter Tryz.func23, Tryz.ntmps23
    go_wp2_with fail
    go_ret
    exact ⟨rfl, Below.refl _ _⟩
  by_cases hn : n < 0
  · obtain ⟨u, rfl⟩ : ∃ u : Nat, n = -(u : Int) := ⟨n.natAbs, by omega⟩
    have hu1 : 1 ≤ u := by omega
    have hu2 : u ≤ 9223372036854775807 := by omega
    have HI : Hid (Lib.itoa (-(u : Int)) = 45 :: Lib.decDigits u) := itoa_ng u hu1
    have hsz : ¬ 9223372036854775807 < (sOf [45]).size + (sOf (Lib.decDigits u)).size := not_long (by have := dec_len u (by omega); simp only [List.length_singleton]; omega)
    have e3 := app1 45 (Lib.decDigits u)
    rw [show sOf [45] = { data := #[45] } from rfl] at hsz e3
    have n1 : (-(u : Int) == -9223372036854775808) = false := by simp; omega
    go_enter Tryz.func23, Tryz.ntmps23
    go_wp2_with (go_at_call 23; refine (dec_nat u hu2 _).mono ?_; rintro e w1 ⟨rfl, hx⟩)
    go_ret
    exact ⟨by rw [HI.out]; rfl, hx⟩
  · obtain ⟨u, rfl⟩ : ∃ u : Nat, n = (u : Int) := ⟨n.toNat, by omega⟩
    rw [itoa_nn]
    exact dec_nat u (by omega) w
end Go.Proofs.YtfkeklndcjkgcaaGreatDoor
