/-
  OWN WORK. The laws' marks: the text of a number.
-/
import Derived.Test.YtfkeklndcjkgcaaGreatDoorSlot
import Derived.Laws.IdiomStrings
import Derived.Laws.Concat
namespace Go.Proofs.YtfkeklndcjkgcaaGreatDoor
open Go.RowKit
set_option linter.unusedVariables false

/-- A digit. -/
def chr (k : Nat) : UInt8 := UInt8.ofNat (48 + k % 10)
theorem chr_nat (k : Nat) : (chr k).toNat = 48 + k % 10 := by unfold chr; rw [UInt8.toNat_ofNat']; omega

/-- The digits of a number, ahead of a text. -/
def dg : Nat → Nat → ByteArray → ByteArray
  | 0, _, out => out
  | f + 1, k, out => if k = 0 then out else dg f (k / 10) (⟨#[chr k]⟩ ++ out)

theorem dg_fuel : ∀ (f k : Nat) (out : ByteArray), k ≤ f → dg (f + 1) k out = dg f k out := by
  intro f
  induction f with
  | zero =>
    intro k out h
    obtain rfl : k = 0 := by omega
    rfl
  | succ f ih =>
    intro k out h
    rw [dg]
    conv => rhs; rw [dg]
    by_cases h0 : k = 0
    · rw [if_pos h0, if_pos h0]
    · rw [if_neg h0, if_neg h0]
      exact ih _ _ (by omega)

/-- The mark's text. -/
def mtx (k : Nat) : ByteArray := ⟨#[109]⟩ ++ dg k k ⟨#[]⟩

set_option maxRecDepth 20000 in
set_option maxHeartbeats 1000000 in
theorem mtx_any (k : Nat) (w : World) (hk : 0 < k) (hk2 : k ≤ 100000000000000) :
    Calls Tryz.prog 69 #[.int .i64 (k : Int)] w fun e w' => e = .returned (.string (mtx k)) ∧ Below w.heap.size w w' := by
  go_enter Tryz.func69, Tryz.ntmps69
  go_wp2_with fail
  go_loopw [0, 3] (fun a c wr => ∃ (j f : Nat) (out : ByteArray), a = .int .i64 (j : Int) ∧ c = .string out ∧ j ≤ f ∧ out.size + j ≤ k ∧ Below w.heap.size w wr ∧ Hid (dg f j out = dg k k ⟨#[]⟩)) (fun a _ _ => (intOf a).toNat)
  case atStart => exact ⟨k, k, _, rfl, rfl, Nat.le_refl _, by show 0 + k ≤ k; omega, Below.refl _ _, rfl⟩
  case round =>
    obtain ⟨j, f, out, rfl, rfl, hjf, hos, hB, hF⟩ := hrel
    by_cases k1 : 0 < j
    · obtain ⟨f', rfl⟩ : ∃ f', f = f' + 1 := ⟨f - 1, by omega⟩
      have HD : Hid (dg f' (j / 10) (⟨#[chr j]⟩ ++ out) = dg k k ⟨#[]⟩) := by
        have := hF.out; rw [dg, if_neg (by omega)] at this; exact this
      clear hF
      have hcv : (convert 33 9 (.slice (some ⟨wr.heap.size, 0, none⟩) 1 1)).run Tryz.prog (wr.alloc (.cells #[.int .u8 (48 + (j : Int) % 10)] 5)) = .ok (.string ⟨#[chr j]⟩) (wr.alloc (.cells #[.int .u8 (48 + (j : Int) % 10)] 5)) :=
        run_convert_bytes_back (P := Tryz.prog) _ 33 9 5 ⟨wr.heap.size, 0, none⟩ 1 [chr j] Tryz.underlying33 Tryz.underlying5 Tryz.underlying9 (fun i hi => by
          obtain rfl : i = 0 := by simp at hi; omega
          have e : ((chr j).toNat : Int) = 48 + (j : Int) % 10 := by rw [chr_nat]; omega
          show (wr.alloc _).cell? (Addr.add ⟨wr.heap.size, 0, none⟩ 0) = some (.int .u8 ((chr j).toNat : Int))
          rw [e]; simp [go_sem])
      have hsz : (ByteArray.mk #[chr j]).size = 1 := rfl
      have hs2 : ((⟨#[chr j]⟩ : ByteArray) ++ out).size = 1 + out.size := by rw [ByteArray.size_append]; rfl
      go_wp2_with fail
      go_roundw
      case rel => exact ⟨j / 10, f', _, by congr 1, rfl, by omega, by rw [hs2]; omega, hB.alloc hB.size _, HD⟩
      case measure => simp [intOf]; omega
    · obtain rfl : j = 0 := by omega
      have HD : Hid (out = dg k k ⟨#[]⟩) := by
        have := hF.out
        cases f with
        | zero => exact this
        | succ f => rw [dg, if_pos rfl] at this; exact this
      clear hF
      have hs1 : (ByteArray.mk #[109]).size = 1 := rfl
      go_wp2_with fail
      go_ret
      exact ⟨by unfold mtx; rw [← HD.out]; rfl, hB⟩
end Go.Proofs.YtfkeklndcjkgcaaGreatDoor
