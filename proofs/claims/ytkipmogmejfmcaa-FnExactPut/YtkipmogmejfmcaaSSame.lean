/-
  OWN WORK. Same, the specification's: case by case.
-/
import Derived.Test.YtkipmogmejfmcaaCompare
namespace Go.Proofs.Ytkipmogmejfmcaa
open Go.RowKit
attribute [local go_sem] run_store_float
set_option linter.unusedVariables false

/-- All the fields that count are the same. -/
def sf (ka na : Int) (sa : ByteArray) (ra : Int) (kb nb : Int) (sb : ByteArray) (rb : Int) : Bool := ka == kb && na == nb && sa.toList == sb.toList && ra == rb

set_option maxRecDepth 20000 in
set_option maxHeartbeats 1000000 in
theorem ss_bad1 (ka na : Int) (fa : Nat) (sa : ByteArray) (ra : Int) (kb nb : Int) (fb : Nat) (sb : ByteArray) (rb : Int) (w : World) (hsa : sa.size ≤ maxLen) (hsb : sb.size ≤ maxLen) (hva : vok ka na fa sa ra = false) :
    Calls Try.prog 28 #[VV ka na fa sa ra, VV kb nb fb sb rb] w fun e w' => e = .returned (.bool (false)) ∧ Below w.heap.size w w' := by
  go_enter Try.func28, Try.ntmps28
  go_wp2_with fail
  refine (vok_any _ _ _ _ _ _ hsa).mono ?_
  rintro e w101 ⟨rfl, hx⟩
  obtain ⟨hb, a0, a1, a2, a3, a4, b0, b1, b2, b3, b4⟩ := box10 hx
  clear hx
  go_wp2_with fail
  all_goals
    go_ret
    exact ⟨by first | rfl | simp_all [sf], hb⟩

set_option maxRecDepth 20000 in
set_option maxHeartbeats 1000000 in
theorem ss_bad2 (ka na : Int) (fa : Nat) (sa : ByteArray) (ra : Int) (kb nb : Int) (fb : Nat) (sb : ByteArray) (rb : Int) (w : World) (hsa : sa.size ≤ maxLen) (hsb : sb.size ≤ maxLen) (hva : vok ka na fa sa ra = true) (hvb : vok kb nb fb sb rb = false) :
    Calls Try.prog 28 #[VV ka na fa sa ra, VV kb nb fb sb rb] w fun e w' => e = .returned (.bool (false)) ∧ Below w.heap.size w w' := by
  go_enter Try.func28, Try.ntmps28
  go_wp2_with fail
  refine (vok_any _ _ _ _ _ _ hsa).mono ?_
  rintro e w102 ⟨rfl, hx⟩
  obtain ⟨hb, a0, a1, a2, a3, a4, b0, b1, b2, b3, b4⟩ := box10 hx
  clear hx
  go_wp2_with fail
  refine (vok_any _ _ _ _ _ _ hsb).mono ?_
  rintro e w103 ⟨rfl, hx⟩
  replace hb := hb.trans (hx.mono hb.size)
  replace a0 := cell_later hx a0; replace a1 := cell_later hx a1; replace a2 := cell_later hx a2; replace a3 := cell_later hx a3; replace a4 := cell_later hx a4; replace b0 := cell_later hx b0; replace b1 := cell_later hx b1; replace b2 := cell_later hx b2; replace b3 := cell_later hx b3; replace b4 := cell_later hx b4
  clear hx
  go_wp2_with fail
  all_goals
    go_ret
    exact ⟨by first | rfl | simp_all [sf], hb⟩

set_option maxRecDepth 20000 in
set_option maxHeartbeats 1000000 in
theorem ss_22 (na : Int) (fa : Nat) (sa : ByteArray) (ra : Int) (nb : Int) (fb : Nat) (sb : ByteArray) (rb : Int) (w : World) (hsa : sa.size ≤ maxLen) (hsb : sb.size ≤ maxLen) (hva : vok 2 na fa sa ra = true) (hvb : vok 2 nb fb sb rb = true) (hfa : fa < 18446744073709551616) (hfb : fb < 18446744073709551616) :
    Calls Try.prog 28 #[VV 2 na fa sa ra, VV 2 nb fb sb rb] w fun e w' => e = .returned (.bool (cmpV 2 na fa sa ra 2 nb fb sb rb == 0)) ∧ Below w.heap.size w w' := by
  go_enter Try.func28, Try.ntmps28
  go_wp2_with fail
  refine (vok_any _ _ _ _ _ _ hsa).mono ?_
  rintro e w104 ⟨rfl, hx⟩
  obtain ⟨hb, a0, a1, a2, a3, a4, b0, b1, b2, b3, b4⟩ := box10 hx
  clear hx
  go_wp2_with fail
  refine (vok_any _ _ _ _ _ _ hsb).mono ?_
  rintro e w105 ⟨rfl, hx⟩
  replace hb := hb.trans (hx.mono hb.size)
  replace a0 := cell_later hx a0; replace a1 := cell_later hx a1; replace a2 := cell_later hx a2; replace a3 := cell_later hx a3; replace a4 := cell_later hx a4; replace b0 := cell_later hx b0; replace b1 := cell_later hx b1; replace b2 := cell_later hx b2; replace b3 := cell_later hx b3; replace b4 := cell_later hx b4
  clear hx
  go_wp2_with fail
  refine (num_any _ _ _ _ _ _).mono ?_
  rintro e w106 ⟨rfl, hx⟩
  replace hb := hb.trans (hx.mono hb.size)
  replace a0 := cell_later hx a0; replace a1 := cell_later hx a1; replace a2 := cell_later hx a2; replace a3 := cell_later hx a3; replace a4 := cell_later hx a4; replace b0 := cell_later hx b0; replace b1 := cell_later hx b1; replace b2 := cell_later hx b2; replace b3 := cell_later hx b3; replace b4 := cell_later hx b4
  clear hx
  go_wp2_with fail
  refine (num_any _ _ _ _ _ _).mono ?_
  rintro e w107 ⟨rfl, hx⟩
  replace hb := hb.trans (hx.mono hb.size)
  replace a0 := cell_later hx a0; replace a1 := cell_later hx a1; replace a2 := cell_later hx a2; replace a3 := cell_later hx a3; replace a4 := cell_later hx a4; replace b0 := cell_later hx b0; replace b1 := cell_later hx b1; replace b2 := cell_later hx b2; replace b3 := cell_later hx b3; replace b4 := cell_later hx b4
  clear hx
  go_wp2_with fail
  refine (sc_any _ _ _ _ _ _ _ _ _ _ _ hsa hsb hfa hfb).mono ?_
  rintro e w108 ⟨rfl, hx⟩
  replace hb := hb.trans (hx.mono hb.size)
  replace a0 := cell_later hx a0; replace a1 := cell_later hx a1; replace a2 := cell_later hx a2; replace a3 := cell_later hx a3; replace a4 := cell_later hx a4; replace b0 := cell_later hx b0; replace b1 := cell_later hx b1; replace b2 := cell_later hx b2; replace b3 := cell_later hx b3; replace b4 := cell_later hx b4
  clear hx
  go_wp2_with fail
  all_goals
    go_ret
    exact ⟨by first | rfl | simp_all [sf], hb⟩

set_option maxRecDepth 20000 in
set_option maxHeartbeats 1000000 in
theorem ss_23 (na : Int) (fa : Nat) (sa : ByteArray) (ra : Int) (nb : Int) (fb : Nat) (sb : ByteArray) (rb : Int) (w : World) (hsa : sa.size ≤ maxLen) (hsb : sb.size ≤ maxLen) (hva : vok 2 na fa sa ra = true) (hvb : vok 3 nb fb sb rb = true) (hfa : fa < 18446744073709551616) (hfb : fb < 18446744073709551616) :
    Calls Try.prog 28 #[VV 2 na fa sa ra, VV 3 nb fb sb rb] w fun e w' => e = .returned (.bool (cmpV 2 na fa sa ra 3 nb fb sb rb == 0)) ∧ Below w.heap.size w w' := by
  go_enter Try.func28, Try.ntmps28
  go_wp2_with fail
  refine (vok_any _ _ _ _ _ _ hsa).mono ?_
  rintro e w109 ⟨rfl, hx⟩
  obtain ⟨hb, a0, a1, a2, a3, a4, b0, b1, b2, b3, b4⟩ := box10 hx
  clear hx
  go_wp2_with fail
  refine (vok_any _ _ _ _ _ _ hsb).mono ?_
  rintro e w110 ⟨rfl, hx⟩
  replace hb := hb.trans (hx.mono hb.size)
  replace a0 := cell_later hx a0; replace a1 := cell_later hx a1; replace a2 := cell_later hx a2; replace a3 := cell_later hx a3; replace a4 := cell_later hx a4; replace b0 := cell_later hx b0; replace b1 := cell_later hx b1; replace b2 := cell_later hx b2; replace b3 := cell_later hx b3; replace b4 := cell_later hx b4
  clear hx
  go_wp2_with fail
  refine (num_any _ _ _ _ _ _).mono ?_
  rintro e w111 ⟨rfl, hx⟩
  replace hb := hb.trans (hx.mono hb.size)
  replace a0 := cell_later hx a0; replace a1 := cell_later hx a1; replace a2 := cell_later hx a2; replace a3 := cell_later hx a3; replace a4 := cell_later hx a4; replace b0 := cell_later hx b0; replace b1 := cell_later hx b1; replace b2 := cell_later hx b2; replace b3 := cell_later hx b3; replace b4 := cell_later hx b4
  clear hx
  go_wp2_with fail
  refine (num_any _ _ _ _ _ _).mono ?_
  rintro e w112 ⟨rfl, hx⟩
  replace hb := hb.trans (hx.mono hb.size)
  replace a0 := cell_later hx a0; replace a1 := cell_later hx a1; replace a2 := cell_later hx a2; replace a3 := cell_later hx a3; replace a4 := cell_later hx a4; replace b0 := cell_later hx b0; replace b1 := cell_later hx b1; replace b2 := cell_later hx b2; replace b3 := cell_later hx b3; replace b4 := cell_later hx b4
  clear hx
  go_wp2_with fail
  refine (sc_any _ _ _ _ _ _ _ _ _ _ _ hsa hsb hfa hfb).mono ?_
  rintro e w113 ⟨rfl, hx⟩
  replace hb := hb.trans (hx.mono hb.size)
  replace a0 := cell_later hx a0; replace a1 := cell_later hx a1; replace a2 := cell_later hx a2; replace a3 := cell_later hx a3; replace a4 := cell_later hx a4; replace b0 := cell_later hx b0; replace b1 := cell_later hx b1; replace b2 := cell_later hx b2; replace b3 := cell_later hx b3; replace b4 := cell_later hx b4
  clear hx
  go_wp2_with fail
  all_goals
    go_ret
    exact ⟨by first | rfl | simp_all [sf], hb⟩

set_option maxRecDepth 20000 in
set_option maxHeartbeats 1000000 in
theorem ss_32 (na : Int) (fa : Nat) (sa : ByteArray) (ra : Int) (nb : Int) (fb : Nat) (sb : ByteArray) (rb : Int) (w : World) (hsa : sa.size ≤ maxLen) (hsb : sb.size ≤ maxLen) (hva : vok 3 na fa sa ra = true) (hvb : vok 2 nb fb sb rb = true) (hfa : fa < 18446744073709551616) (hfb : fb < 18446744073709551616) :
    Calls Try.prog 28 #[VV 3 na fa sa ra, VV 2 nb fb sb rb] w fun e w' => e = .returned (.bool (cmpV 3 na fa sa ra 2 nb fb sb rb == 0)) ∧ Below w.heap.size w w' := by
  go_enter Try.func28, Try.ntmps28
  go_wp2_with fail
  refine (vok_any _ _ _ _ _ _ hsa).mono ?_
  rintro e w114 ⟨rfl, hx⟩
  obtain ⟨hb, a0, a1, a2, a3, a4, b0, b1, b2, b3, b4⟩ := box10 hx
  clear hx
  go_wp2_with fail
  refine (vok_any _ _ _ _ _ _ hsb).mono ?_
  rintro e w115 ⟨rfl, hx⟩
  replace hb := hb.trans (hx.mono hb.size)
  replace a0 := cell_later hx a0; replace a1 := cell_later hx a1; replace a2 := cell_later hx a2; replace a3 := cell_later hx a3; replace a4 := cell_later hx a4; replace b0 := cell_later hx b0; replace b1 := cell_later hx b1; replace b2 := cell_later hx b2; replace b3 := cell_later hx b3; replace b4 := cell_later hx b4
  clear hx
  go_wp2_with fail
  refine (num_any _ _ _ _ _ _).mono ?_
  rintro e w116 ⟨rfl, hx⟩
  replace hb := hb.trans (hx.mono hb.size)
  replace a0 := cell_later hx a0; replace a1 := cell_later hx a1; replace a2 := cell_later hx a2; replace a3 := cell_later hx a3; replace a4 := cell_later hx a4; replace b0 := cell_later hx b0; replace b1 := cell_later hx b1; replace b2 := cell_later hx b2; replace b3 := cell_later hx b3; replace b4 := cell_later hx b4
  clear hx
  go_wp2_with fail
  refine (num_any _ _ _ _ _ _).mono ?_
  rintro e w117 ⟨rfl, hx⟩
  replace hb := hb.trans (hx.mono hb.size)
  replace a0 := cell_later hx a0; replace a1 := cell_later hx a1; replace a2 := cell_later hx a2; replace a3 := cell_later hx a3; replace a4 := cell_later hx a4; replace b0 := cell_later hx b0; replace b1 := cell_later hx b1; replace b2 := cell_later hx b2; replace b3 := cell_later hx b3; replace b4 := cell_later hx b4
  clear hx
  go_wp2_with fail
  refine (sc_any _ _ _ _ _ _ _ _ _ _ _ hsa hsb hfa hfb).mono ?_
  rintro e w118 ⟨rfl, hx⟩
  replace hb := hb.trans (hx.mono hb.size)
  replace a0 := cell_later hx a0; replace a1 := cell_later hx a1; replace a2 := cell_later hx a2; replace a3 := cell_later hx a3; replace a4 := cell_later hx a4; replace b0 := cell_later hx b0; replace b1 := cell_later hx b1; replace b2 := cell_later hx b2; replace b3 := cell_later hx b3; replace b4 := cell_later hx b4
  clear hx
  go_wp2_with fail
  all_goals
    go_ret
    exact ⟨by first | rfl | simp_all [sf], hb⟩

set_option maxRecDepth 20000 in
set_option maxHeartbeats 1000000 in
theorem ss_33 (na : Int) (fa : Nat) (sa : ByteArray) (ra : Int) (nb : Int) (fb : Nat) (sb : ByteArray) (rb : Int) (w : World) (hsa : sa.size ≤ maxLen) (hsb : sb.size ≤ maxLen) (hva : vok 3 na fa sa ra = true) (hvb : vok 3 nb fb sb rb = true) (hfa : fa < 18446744073709551616) (hfb : fb < 18446744073709551616) :
    Calls Try.prog 28 #[VV 3 na fa sa ra, VV 3 nb fb sb rb] w fun e w' => e = .returned (.bool (cmpV 3 na fa sa ra 3 nb fb sb rb == 0)) ∧ Below w.heap.size w w' := by
  go_enter Try.func28, Try.ntmps28
  go_wp2_with fail
  refine (vok_any _ _ _ _ _ _ hsa).mono ?_
  rintro e w119 ⟨rfl, hx⟩
  obtain ⟨hb, a0, a1, a2, a3, a4, b0, b1, b2, b3, b4⟩ := box10 hx
  clear hx
  go_wp2_with fail
  refine (vok_any _ _ _ _ _ _ hsb).mono ?_
  rintro e w120 ⟨rfl, hx⟩
  replace hb := hb.trans (hx.mono hb.size)
  replace a0 := cell_later hx a0; replace a1 := cell_later hx a1; replace a2 := cell_later hx a2; replace a3 := cell_later hx a3; replace a4 := cell_later hx a4; replace b0 := cell_later hx b0; replace b1 := cell_later hx b1; replace b2 := cell_later hx b2; replace b3 := cell_later hx b3; replace b4 := cell_later hx b4
  clear hx
  go_wp2_with fail
  refine (num_any _ _ _ _ _ _).mono ?_
  rintro e w121 ⟨rfl, hx⟩
  replace hb := hb.trans (hx.mono hb.size)
  replace a0 := cell_later hx a0; replace a1 := cell_later hx a1; replace a2 := cell_later hx a2; replace a3 := cell_later hx a3; replace a4 := cell_later hx a4; replace b0 := cell_later hx b0; replace b1 := cell_later hx b1; replace b2 := cell_later hx b2; replace b3 := cell_later hx b3; replace b4 := cell_later hx b4
  clear hx
  go_wp2_with fail
  refine (num_any _ _ _ _ _ _).mono ?_
  rintro e w122 ⟨rfl, hx⟩
  replace hb := hb.trans (hx.mono hb.size)
  replace a0 := cell_later hx a0; replace a1 := cell_later hx a1; replace a2 := cell_later hx a2; replace a3 := cell_later hx a3; replace a4 := cell_later hx a4; replace b0 := cell_later hx b0; replace b1 := cell_later hx b1; replace b2 := cell_later hx b2; replace b3 := cell_later hx b3; replace b4 := cell_later hx b4
  clear hx
  go_wp2_with fail
  refine (sc_any _ _ _ _ _ _ _ _ _ _ _ hsa hsb hfa hfb).mono ?_
  rintro e w123 ⟨rfl, hx⟩
  replace hb := hb.trans (hx.mono hb.size)
  replace a0 := cell_later hx a0; replace a1 := cell_later hx a1; replace a2 := cell_later hx a2; replace a3 := cell_later hx a3; replace a4 := cell_later hx a4; replace b0 := cell_later hx b0; replace b1 := cell_later hx b1; replace b2 := cell_later hx b2; replace b3 := cell_later hx b3; replace b4 := cell_later hx b4
  clear hx
  go_wp2_with fail
  all_goals
    go_ret
    exact ⟨by first | rfl | simp_all [sf], hb⟩

set_option maxRecDepth 20000 in
set_option maxHeartbeats 1000000 in
theorem ss_no (ka na : Int) (fa : Nat) (sa : ByteArray) (ra : Int) (kb nb : Int) (fb : Nat) (sb : ByteArray) (rb : Int) (w : World) (hsa : sa.size ≤ maxLen) (hsb : sb.size ≤ maxLen) (hva : vok ka na fa sa ra = true) (hvb : vok kb nb fb sb rb = true) (h2 : (ka == 2) = false) (h3 : (ka == 3) = false) :
    Calls Try.prog 28 #[VV ka na fa sa ra, VV kb nb fb sb rb] w fun e w' => e = .returned (.bool (sf ka na sa ra kb nb sb rb)) ∧ Below w.heap.size w w' := by
  go_enter Try.func28, Try.ntmps28
  go_wp2_with fail
  refine (vok_any _ _ _ _ _ _ hsa).mono ?_
  rintro e w124 ⟨rfl, hx⟩
  obtain ⟨hb, a0, a1, a2, a3, a4, b0, b1, b2, b3, b4⟩ := box10 hx
  clear hx
  go_wp2_with fail
  refine (vok_any _ _ _ _ _ _ hsb).mono ?_
  rintro e w125 ⟨rfl, hx⟩
  replace hb := hb.trans (hx.mono hb.size)
  replace a0 := cell_later hx a0; replace a1 := cell_later hx a1; replace a2 := cell_later hx a2; replace a3 := cell_later hx a3; replace a4 := cell_later hx a4; replace b0 := cell_later hx b0; replace b1 := cell_later hx b1; replace b2 := cell_later hx b2; replace b3 := cell_later hx b3; replace b4 := cell_later hx b4
  clear hx
  go_wp2_with fail
  refine (num_any _ _ _ _ _ _).mono ?_
  rintro e w126 ⟨rfl, hx⟩
  replace hb := hb.trans (hx.mono hb.size)
  replace a0 := cell_later hx a0; replace a1 := cell_later hx a1; replace a2 := cell_later hx a2; replace a3 := cell_later hx a3; replace a4 := cell_later hx a4; replace b0 := cell_later hx b0; replace b1 := cell_later hx b1; replace b2 := cell_later hx b2; replace b3 := cell_later hx b3; replace b4 := cell_later hx b4
  clear hx
  go_wp2_with fail
  all_goals
    go_ret
    exact ⟨by first | rfl | simp_all [sf], hb⟩

set_option maxRecDepth 20000 in
set_option maxHeartbeats 1000000 in
theorem ss_no2 (na : Int) (fa : Nat) (sa : ByteArray) (ra : Int) (kb nb : Int) (fb : Nat) (sb : ByteArray) (rb : Int) (w : World) (hsa : sa.size ≤ maxLen) (hsb : sb.size ≤ maxLen) (hva : vok 2 na fa sa ra = true) (hvb : vok kb nb fb sb rb = true) (h2 : (kb == 2) = false) (h3 : (kb == 3) = false) :
    Calls Try.prog 28 #[VV 2 na fa sa ra, VV kb nb fb sb rb] w fun e w' => e = .returned (.bool (sf 2 na sa ra kb nb sb rb)) ∧ Below w.heap.size w w' := by
  go_enter Try.func28, Try.ntmps28
  go_wp2_with fail
  refine (vok_any _ _ _ _ _ _ hsa).mono ?_
  rintro e w127 ⟨rfl, hx⟩
  obtain ⟨hb, a0, a1, a2, a3, a4, b0, b1, b2, b3, b4⟩ := box10 hx
  clear hx
  go_wp2_with fail
  refine (vok_any _ _ _ _ _ _ hsb).mono ?_
  rintro e w128 ⟨rfl, hx⟩
  replace hb := hb.trans (hx.mono hb.size)
  replace a0 := cell_later hx a0; replace a1 := cell_later hx a1; replace a2 := cell_later hx a2; replace a3 := cell_later hx a3; replace a4 := cell_later hx a4; replace b0 := cell_later hx b0; replace b1 := cell_later hx b1; replace b2 := cell_later hx b2; replace b3 := cell_later hx b3; replace b4 := cell_later hx b4
  clear hx
  go_wp2_with fail
  refine (num_any _ _ _ _ _ _).mono ?_
  rintro e w129 ⟨rfl, hx⟩
  replace hb := hb.trans (hx.mono hb.size)
  replace a0 := cell_later hx a0; replace a1 := cell_later hx a1; replace a2 := cell_later hx a2; replace a3 := cell_later hx a3; replace a4 := cell_later hx a4; replace b0 := cell_later hx b0; replace b1 := cell_later hx b1; replace b2 := cell_later hx b2; replace b3 := cell_later hx b3; replace b4 := cell_later hx b4
  clear hx
  go_wp2_with fail
  refine (num_any _ _ _ _ _ _).mono ?_
  rintro e w130 ⟨rfl, hx⟩
  replace hb := hb.trans (hx.mono hb.size)
  replace a0 := cell_later hx a0; replace a1 := cell_later hx a1; replace a2 := cell_later hx a2; replace a3 := cell_later hx a3; replace a4 := cell_later hx a4; replace b0 := cell_later hx b0; replace b1 := cell_later hx b1; replace b2 := cell_later hx b2; replace b3 := cell_later hx b3; replace b4 := cell_later hx b4
  clear hx
  go_wp2_with fail
  all_goals
    go_ret
    exact ⟨by first | rfl | simp_all [sf], hb⟩

set_option maxRecDepth 20000 in
set_option maxHeartbeats 1000000 in
theorem ss_no3 (na : Int) (fa : Nat) (sa : ByteArray) (ra : Int) (kb nb : Int) (fb : Nat) (sb : ByteArray) (rb : Int) (w : World) (hsa : sa.size ≤ maxLen) (hsb : sb.size ≤ maxLen) (hva : vok 3 na fa sa ra = true) (hvb : vok kb nb fb sb rb = true) (h2 : (kb == 2) = false) (h3 : (kb == 3) = false) :
    Calls Try.prog 28 #[VV 3 na fa sa ra, VV kb nb fb sb rb] w fun e w' => e = .returned (.bool (sf 3 na sa ra kb nb sb rb)) ∧ Below w.heap.size w w' := by
  go_enter Try.func28, Try.ntmps28
  go_wp2_with fail
  refine (vok_any _ _ _ _ _ _ hsa).mono ?_
  rintro e w131 ⟨rfl, hx⟩
  obtain ⟨hb, a0, a1, a2, a3, a4, b0, b1, b2, b3, b4⟩ := box10 hx
  clear hx
  go_wp2_with fail
  refine (vok_any _ _ _ _ _ _ hsb).mono ?_
  rintro e w132 ⟨rfl, hx⟩
  replace hb := hb.trans (hx.mono hb.size)
  replace a0 := cell_later hx a0; replace a1 := cell_later hx a1; replace a2 := cell_later hx a2; replace a3 := cell_later hx a3; replace a4 := cell_later hx a4; replace b0 := cell_later hx b0; replace b1 := cell_later hx b1; replace b2 := cell_later hx b2; replace b3 := cell_later hx b3; replace b4 := cell_later hx b4
  clear hx
  go_wp2_with fail
  refine (num_any _ _ _ _ _ _).mono ?_
  rintro e w133 ⟨rfl, hx⟩
  replace hb := hb.trans (hx.mono hb.size)
  replace a0 := cell_later hx a0; replace a1 := cell_later hx a1; replace a2 := cell_later hx a2; replace a3 := cell_later hx a3; replace a4 := cell_later hx a4; replace b0 := cell_later hx b0; replace b1 := cell_later hx b1; replace b2 := cell_later hx b2; replace b3 := cell_later hx b3; replace b4 := cell_later hx b4
  clear hx
  go_wp2_with fail
  refine (num_any _ _ _ _ _ _).mono ?_
  rintro e w134 ⟨rfl, hx⟩
  replace hb := hb.trans (hx.mono hb.size)
  replace a0 := cell_later hx a0; replace a1 := cell_later hx a1; replace a2 := cell_later hx a2; replace a3 := cell_later hx a3; replace a4 := cell_later hx a4; replace b0 := cell_later hx b0; replace b1 := cell_later hx b1; replace b2 := cell_later hx b2; replace b3 := cell_later hx b3; replace b4 := cell_later hx b4
  clear hx
  go_wp2_with fail
  all_goals
    go_ret
    exact ⟨by first | rfl | simp_all [sf], hb⟩
end Go.Proofs.Ytkipmogmejfmcaa
