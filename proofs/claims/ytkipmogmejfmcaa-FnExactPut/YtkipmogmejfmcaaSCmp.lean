/-
  OWN WORK. Compare, the specification's: case by case.
-/
import Derived.Test.YtkipmogmejfmcaaCmp
namespace Go.Proofs.Ytkipmogmejfmcaa
open Go.RowKit
attribute [local go_sem] run_store_float
set_option linter.unusedVariables false

set_option maxRecDepth 20000 in
set_option maxHeartbeats 400000 in
theorem sc_bad1 (ka na : Int) (fa : Nat) (sa : ByteArray) (ra : Int) (kb nb : Int) (fb : Nat) (sb : ByteArray) (rb : Int) (w : World) (hsa : sa.size ≤ maxLen) (hsb : sb.size ≤ maxLen) (hva : vok ka na fa sa ra = false) :
    Calls Try.prog 26 #[VV ka na fa sa ra, VV kb nb fb sb rb] w fun e w' => e = .returned (.int .i64 (3)) ∧ Below w.heap.size w w' := by
  go_enter Try.func26, Try.ntmps26
  go_wp2_with fail
  refine (vok_any _ _ _ _ _ _ hsa).mono ?_
  rintro e w101 ⟨rfl, hx⟩
  obtain ⟨hb, a0, a1, a2, a3, a4, b0, b1, b2, b3, b4⟩ := box10 hx
  clear hx
  go_wp2_with fail
  go_ret
  exact ⟨by first | rfl | simp_all, hb⟩

set_option maxRecDepth 20000 in
set_option maxHeartbeats 400000 in
theorem sc_bad2 (ka na : Int) (fa : Nat) (sa : ByteArray) (ra : Int) (kb nb : Int) (fb : Nat) (sb : ByteArray) (rb : Int) (w : World) (hsa : sa.size ≤ maxLen) (hsb : sb.size ≤ maxLen) (hva : vok ka na fa sa ra = true) (hvb : vok kb nb fb sb rb = false) :
    Calls Try.prog 26 #[VV ka na fa sa ra, VV kb nb fb sb rb] w fun e w' => e = .returned (.int .i64 (3)) ∧ Below w.heap.size w w' := by
  go_enter Try.func26, Try.ntmps26
  go_wp2_with fail
  refine (vok_any _ _ _ _ _ _ hsa).mono ?_
  rintro e w102 ⟨rfl, hx⟩
  obtain ⟨hb, a0, a1, a2, a3, a4, b0, b1, b2, b3, b4⟩ := box10 hx
  clear hx
  go_wp2_with fail
  refine (vok_any _ _ _ _ _ _ hsb).mono ?_
  rintro e w103 ⟨rfl, hx⟩
  replace hb := hb.trans (hx.mono hb.size)
  replace a0 := cell_later hx a0; replace a1 := cell_later hx a1; replace a2 := cell_later hx a2; replace a3 := cell_later hx a3; replace a4 := cell_later hx a4; replace b0 := cell_later hx b0; replace b1 := cell_later hx b1; replace b2 := cell_later hx b2; replace b3 := cell_later hx b3; replace b4 := cell_later hx b4
  clear hx
  go_wp2_with fail
  go_ret
  exact ⟨by first | rfl | simp_all, hb⟩

set_option maxRecDepth 20000 in
set_option maxHeartbeats 400000 in
theorem sc_str (na : Int) (fa : Nat) (sa : ByteArray) (ra : Int) (nb : Int) (fb : Nat) (sb : ByteArray) (rb : Int) (w : World) (hsa : sa.size ≤ maxLen) (hsb : sb.size ≤ maxLen) (hva : vok 4 na fa sa ra = true) (hvb : vok 4 nb fb sb rb = true) :
    Calls Try.prog 26 #[VV 4 na fa sa ra, VV 4 nb fb sb rb] w fun e w' => e = .returned (.int .i64 (scmp sa.data.toList sb.data.toList)) ∧ Below w.heap.size w w' := by
  go_enter Try.func26, Try.ntmps26
  go_wp2_with fail
  refine (vok_any _ _ _ _ _ _ hsa).mono ?_
  rintro e w104 ⟨rfl, hx⟩
  obtain ⟨hb, a0, a1, a2, a3, a4, b0, b1, b2, b3, b4⟩ := box10 hx
  clear hx
  go_wp2_with fail
  refine (vok_any _ _ _ _ _ _ hsb).mono ?_
  rintro e w105 ⟨rfl, hx⟩
  replace hb := hb.trans (hx.mono hb.size)
  replace a0 := cell_later hx a0; replace a1 := cell_later hx a1; replace a2 := cell_later hx a2; replace a3 := cell_later hx a3; replace a4 := cell_later hx a4; replace b0 := cell_later hx b0; replace b1 := cell_later hx b1; replace b2 := cell_later hx b2; replace b3 := cell_later hx b3; replace b4 := cell_later hx b4
  clear hx
  go_wp2_with fail
  refine (strs_any _ _ _ hsa hsb).mono ?_
  rintro e w106 ⟨rfl, hx⟩
  replace hb := hb.trans (hx.mono hb.size)
  replace a0 := cell_later hx a0; replace a1 := cell_later hx a1; replace a2 := cell_later hx a2; replace a3 := cell_later hx a3; replace a4 := cell_later hx a4; replace b0 := cell_later hx b0; replace b1 := cell_later hx b1; replace b2 := cell_later hx b2; replace b3 := cell_later hx b3; replace b4 := cell_later hx b4
  clear hx
  go_wp2_with fail
  go_ret
  exact ⟨by first | rfl | simp_all, hb⟩

set_option maxRecDepth 20000 in
set_option maxHeartbeats 400000 in
theorem sc_n1 (na : Int) (fa : Nat) (sa : ByteArray) (ra : Int) (kb nb : Int) (fb : Nat) (sb : ByteArray) (rb : Int) (w : World) (hsa : sa.size ≤ maxLen) (hsb : sb.size ≤ maxLen) (hva : vok 4 na fa sa ra = true) (hvb : vok kb nb fb sb rb = true) (h4 : (kb == 4) = false) :
    Calls Try.prog 26 #[VV 4 na fa sa ra, VV kb nb fb sb rb] w fun e w' => e = .returned (.int .i64 (3)) ∧ Below w.heap.size w w' := by
  go_enter Try.func26, Try.ntmps26
  go_wp2_with fail
  refine (vok_any _ _ _ _ _ _ hsa).mono ?_
  rintro e w107 ⟨rfl, hx⟩
  obtain ⟨hb, a0, a1, a2, a3, a4, b0, b1, b2, b3, b4⟩ := box10 hx
  clear hx
  go_wp2_with fail
  refine (vok_any _ _ _ _ _ _ hsb).mono ?_
  rintro e w108 ⟨rfl, hx⟩
  replace hb := hb.trans (hx.mono hb.size)
  replace a0 := cell_later hx a0; replace a1 := cell_later hx a1; replace a2 := cell_later hx a2; replace a3 := cell_later hx a3; replace a4 := cell_later hx a4; replace b0 := cell_later hx b0; replace b1 := cell_later hx b1; replace b2 := cell_later hx b2; replace b3 := cell_later hx b3; replace b4 := cell_later hx b4
  clear hx
  go_wp2_with fail
  refine (num_any _ _ _ _ _ _).mono ?_
  rintro e w109 ⟨rfl, hx⟩
  replace hb := hb.trans (hx.mono hb.size)
  replace a0 := cell_later hx a0; replace a1 := cell_later hx a1; replace a2 := cell_later hx a2; replace a3 := cell_later hx a3; replace a4 := cell_later hx a4; replace b0 := cell_later hx b0; replace b1 := cell_later hx b1; replace b2 := cell_later hx b2; replace b3 := cell_later hx b3; replace b4 := cell_later hx b4
  clear hx
  go_wp2_with fail
  go_ret
  exact ⟨by first | rfl | simp_all, hb⟩

set_option maxRecDepth 20000 in
set_option maxHeartbeats 400000 in
theorem sc_n2 (ka na : Int) (fa : Nat) (sa : ByteArray) (ra : Int) (kb nb : Int) (fb : Nat) (sb : ByteArray) (rb : Int) (w : World) (hsa : sa.size ≤ maxLen) (hsb : sb.size ≤ maxLen) (hva : vok ka na fa sa ra = true) (hvb : vok kb nb fb sb rb = true) (h2 : (ka == 2) = false) (h3 : (ka == 3) = false) (h4 : (ka == 4) = false) :
    Calls Try.prog 26 #[VV ka na fa sa ra, VV kb nb fb sb rb] w fun e w' => e = .returned (.int .i64 (3)) ∧ Below w.heap.size w w' := by
  go_enter Try.func26, Try.ntmps26
  go_wp2_with fail
  refine (vok_any _ _ _ _ _ _ hsa).mono ?_
  rintro e w110 ⟨rfl, hx⟩
  obtain ⟨hb, a0, a1, a2, a3, a4, b0, b1, b2, b3, b4⟩ := box10 hx
  clear hx
  go_wp2_with fail
  refine (vok_any _ _ _ _ _ _ hsb).mono ?_
  rintro e w111 ⟨rfl, hx⟩
  replace hb := hb.trans (hx.mono hb.size)
  replace a0 := cell_later hx a0; replace a1 := cell_later hx a1; replace a2 := cell_later hx a2; replace a3 := cell_later hx a3; replace a4 := cell_later hx a4; replace b0 := cell_later hx b0; replace b1 := cell_later hx b1; replace b2 := cell_later hx b2; replace b3 := cell_later hx b3; replace b4 := cell_later hx b4
  clear hx
  go_wp2_with fail
  refine (num_any _ _ _ _ _ _).mono ?_
  rintro e w112 ⟨rfl, hx⟩
  replace hb := hb.trans (hx.mono hb.size)
  replace a0 := cell_later hx a0; replace a1 := cell_later hx a1; replace a2 := cell_later hx a2; replace a3 := cell_later hx a3; replace a4 := cell_later hx a4; replace b0 := cell_later hx b0; replace b1 := cell_later hx b1; replace b2 := cell_later hx b2; replace b3 := cell_later hx b3; replace b4 := cell_later hx b4
  clear hx
  go_wp2_with fail
  go_ret
  exact ⟨by first | rfl | simp_all, hb⟩

set_option maxRecDepth 20000 in
set_option maxHeartbeats 400000 in
theorem sc_n3_2 (na : Int) (fa : Nat) (sa : ByteArray) (ra : Int) (kb nb : Int) (fb : Nat) (sb : ByteArray) (rb : Int) (w : World) (hsa : sa.size ≤ maxLen) (hsb : sb.size ≤ maxLen) (hva : vok 2 na fa sa ra = true) (hvb : vok kb nb fb sb rb = true) (h2 : (kb == 2) = false) (h3 : (kb == 3) = false) :
    Calls Try.prog 26 #[VV 2 na fa sa ra, VV kb nb fb sb rb] w fun e w' => e = .returned (.int .i64 (3)) ∧ Below w.heap.size w w' := by
  go_enter Try.func26, Try.ntmps26
  go_wp2_with fail
  refine (vok_any _ _ _ _ _ _ hsa).mono ?_
  rintro e w113 ⟨rfl, hx⟩
  obtain ⟨hb, a0, a1, a2, a3, a4, b0, b1, b2, b3, b4⟩ := box10 hx
  clear hx
  go_wp2_with fail
  refine (vok_any _ _ _ _ _ _ hsb).mono ?_
  rintro e w114 ⟨rfl, hx⟩
  replace hb := hb.trans (hx.mono hb.size)
  replace a0 := cell_later hx a0; replace a1 := cell_later hx a1; replace a2 := cell_later hx a2; replace a3 := cell_later hx a3; replace a4 := cell_later hx a4; replace b0 := cell_later hx b0; replace b1 := cell_later hx b1; replace b2 := cell_later hx b2; replace b3 := cell_later hx b3; replace b4 := cell_later hx b4
  clear hx
  go_wp2_with fail
  refine (num_any _ _ _ _ _ _).mono ?_
  rintro e w115 ⟨rfl, hx⟩
  replace hb := hb.trans (hx.mono hb.size)
  replace a0 := cell_later hx a0; replace a1 := cell_later hx a1; replace a2 := cell_later hx a2; replace a3 := cell_later hx a3; replace a4 := cell_later hx a4; replace b0 := cell_later hx b0; replace b1 := cell_later hx b1; replace b2 := cell_later hx b2; replace b3 := cell_later hx b3; replace b4 := cell_later hx b4
  clear hx
  go_wp2_with fail
  refine (num_any _ _ _ _ _ _).mono ?_
  rintro e w116 ⟨rfl, hx⟩
  replace hb := hb.trans (hx.mono hb.size)
  replace a0 := cell_later hx a0; replace a1 := cell_later hx a1; replace a2 := cell_later hx a2; replace a3 := cell_later hx a3; replace a4 := cell_later hx a4; replace b0 := cell_later hx b0; replace b1 := cell_later hx b1; replace b2 := cell_later hx b2; replace b3 := cell_later hx b3; replace b4 := cell_later hx b4
  clear hx
  go_wp2_with fail
  go_ret
  exact ⟨by first | rfl | simp_all, hb⟩

set_option maxRecDepth 20000 in
set_option maxHeartbeats 400000 in
theorem sc_n3_3 (na : Int) (fa : Nat) (sa : ByteArray) (ra : Int) (kb nb : Int) (fb : Nat) (sb : ByteArray) (rb : Int) (w : World) (hsa : sa.size ≤ maxLen) (hsb : sb.size ≤ maxLen) (hva : vok 3 na fa sa ra = true) (hvb : vok kb nb fb sb rb = true) (h2 : (kb == 2) = false) (h3 : (kb == 3) = false) :
    Calls Try.prog 26 #[VV 3 na fa sa ra, VV kb nb fb sb rb] w fun e w' => e = .returned (.int .i64 (3)) ∧ Below w.heap.size w w' := by
  go_enter Try.func26, Try.ntmps26
  go_wp2_with fail
  refine (vok_any _ _ _ _ _ _ hsa).mono ?_
  rintro e w117 ⟨rfl, hx⟩
  obtain ⟨hb, a0, a1, a2, a3, a4, b0, b1, b2, b3, b4⟩ := box10 hx
  clear hx
  go_wp2_with fail
  refine (vok_any _ _ _ _ _ _ hsb).mono ?_
  rintro e w118 ⟨rfl, hx⟩
  replace hb := hb.trans (hx.mono hb.size)
  replace a0 := cell_later hx a0; replace a1 := cell_later hx a1; replace a2 := cell_later hx a2; replace a3 := cell_later hx a3; replace a4 := cell_later hx a4; replace b0 := cell_later hx b0; replace b1 := cell_later hx b1; replace b2 := cell_later hx b2; replace b3 := cell_later hx b3; replace b4 := cell_later hx b4
  clear hx
  go_wp2_with fail
  refine (num_any _ _ _ _ _ _).mono ?_
  rintro e w119 ⟨rfl, hx⟩
  replace hb := hb.trans (hx.mono hb.size)
  replace a0 := cell_later hx a0; replace a1 := cell_later hx a1; replace a2 := cell_later hx a2; replace a3 := cell_later hx a3; replace a4 := cell_later hx a4; replace b0 := cell_later hx b0; replace b1 := cell_later hx b1; replace b2 := cell_later hx b2; replace b3 := cell_later hx b3; replace b4 := cell_later hx b4
  clear hx
  go_wp2_with fail
  refine (num_any _ _ _ _ _ _).mono ?_
  rintro e w120 ⟨rfl, hx⟩
  replace hb := hb.trans (hx.mono hb.size)
  replace a0 := cell_later hx a0; replace a1 := cell_later hx a1; replace a2 := cell_later hx a2; replace a3 := cell_later hx a3; replace a4 := cell_later hx a4; replace b0 := cell_later hx b0; replace b1 := cell_later hx b1; replace b2 := cell_later hx b2; replace b3 := cell_later hx b3; replace b4 := cell_later hx b4
  clear hx
  go_wp2_with fail
  go_ret
  exact ⟨by first | rfl | simp_all, hb⟩

set_option maxRecDepth 20000 in
set_option maxHeartbeats 400000 in
theorem sc_ii_a (na : Int) (fa : Nat) (sa : ByteArray) (ra : Int) (nb : Int) (fb : Nat) (sb : ByteArray) (rb : Int) (w : World) (hsa : sa.size ≤ maxLen) (hsb : sb.size ≤ maxLen) (hva : vok 2 na fa sa ra = true) (hvb : vok 2 nb fb sb rb = true) (h : na < nb) :
    Calls Try.prog 26 #[VV 2 na fa sa ra, VV 2 nb fb sb rb] w fun e w' => e = .returned (.int .i64 (-1)) ∧ Below w.heap.size w w' := by
  go_enter Try.func26, Try.ntmps26
  go_wp2_with fail
  refine (vok_any _ _ _ _ _ _ hsa).mono ?_
  rintro e w121 ⟨rfl, hx⟩
  obtain ⟨hb, a0, a1, a2, a3, a4, b0, b1, b2, b3, b4⟩ := box10 hx
  clear hx
  go_wp2_with fail
  refine (vok_any _ _ _ _ _ _ hsb).mono ?_
  rintro e w122 ⟨rfl, hx⟩
  replace hb := hb.trans (hx.mono hb.size)
  replace a0 := cell_later hx a0; replace a1 := cell_later hx a1; replace a2 := cell_later hx a2; replace a3 := cell_later hx a3; replace a4 := cell_later hx a4; replace b0 := cell_later hx b0; replace b1 := cell_later hx b1; replace b2 := cell_later hx b2; replace b3 := cell_later hx b3; replace b4 := cell_later hx b4
  clear hx
  go_wp2_with fail
  refine (num_any _ _ _ _ _ _).mono ?_
  rintro e w123 ⟨rfl, hx⟩
  replace hb := hb.trans (hx.mono hb.size)
  replace a0 := cell_later hx a0; replace a1 := cell_later hx a1; replace a2 := cell_later hx a2; replace a3 := cell_later hx a3; replace a4 := cell_later hx a4; replace b0 := cell_later hx b0; replace b1 := cell_later hx b1; replace b2 := cell_later hx b2; replace b3 := cell_later hx b3; replace b4 := cell_later hx b4
  clear hx
  go_wp2_with fail
  refine (num_any _ _ _ _ _ _).mono ?_
  rintro e w124 ⟨rfl, hx⟩
  replace hb := hb.trans (hx.mono hb.size)
  replace a0 := cell_later hx a0; replace a1 := cell_later hx a1; replace a2 := cell_later hx a2; replace a3 := cell_later hx a3; replace a4 := cell_later hx a4; replace b0 := cell_later hx b0; replace b1 := cell_later hx b1; replace b2 := cell_later hx b2; replace b3 := cell_later hx b3; replace b4 := cell_later hx b4
  clear hx
  go_wp2_with fail
  go_ret
  exact ⟨by first | rfl | simp_all, hb⟩

set_option maxRecDepth 20000 in
set_option maxHeartbeats 400000 in
theorem sc_ii_b (na : Int) (fa : Nat) (sa : ByteArray) (ra : Int) (nb : Int) (fb : Nat) (sb : ByteArray) (rb : Int) (w : World) (hsa : sa.size ≤ maxLen) (hsb : sb.size ≤ maxLen) (hva : vok 2 na fa sa ra = true) (hvb : vok 2 nb fb sb rb = true) (h : nb < na) :
    Calls Try.prog 26 #[VV 2 na fa sa ra, VV 2 nb fb sb rb] w fun e w' => e = .returned (.int .i64 (1)) ∧ Below w.heap.size w w' := by
  go_enter Try.func26, Try.ntmps26
  go_wp2_with fail
  refine (vok_any _ _ _ _ _ _ hsa).mono ?_
  rintro e w125 ⟨rfl, hx⟩
  obtain ⟨hb, a0, a1, a2, a3, a4, b0, b1, b2, b3, b4⟩ := box10 hx
  clear hx
  go_wp2_with fail
  refine (vok_any _ _ _ _ _ _ hsb).mono ?_
  rintro e w126 ⟨rfl, hx⟩
  replace hb := hb.trans (hx.mono hb.size)
  replace a0 := cell_later hx a0; replace a1 := cell_later hx a1; replace a2 := cell_later hx a2; replace a3 := cell_later hx a3; replace a4 := cell_later hx a4; replace b0 := cell_later hx b0; replace b1 := cell_later hx b1; replace b2 := cell_later hx b2; replace b3 := cell_later hx b3; replace b4 := cell_later hx b4
  clear hx
  go_wp2_with fail
  refine (num_any _ _ _ _ _ _).mono ?_
  rintro e w127 ⟨rfl, hx⟩
  replace hb := hb.trans (hx.mono hb.size)
  replace a0 := cell_later hx a0; replace a1 := cell_later hx a1; replace a2 := cell_later hx a2; replace a3 := cell_later hx a3; replace a4 := cell_later hx a4; replace b0 := cell_later hx b0; replace b1 := cell_later hx b1; replace b2 := cell_later hx b2; replace b3 := cell_later hx b3; replace b4 := cell_later hx b4
  clear hx
  go_wp2_with fail
  refine (num_any _ _ _ _ _ _).mono ?_
  rintro e w128 ⟨rfl, hx⟩
  replace hb := hb.trans (hx.mono hb.size)
  replace a0 := cell_later hx a0; replace a1 := cell_later hx a1; replace a2 := cell_later hx a2; replace a3 := cell_later hx a3; replace a4 := cell_later hx a4; replace b0 := cell_later hx b0; replace b1 := cell_later hx b1; replace b2 := cell_later hx b2; replace b3 := cell_later hx b3; replace b4 := cell_later hx b4
  clear hx
  go_wp2_with fail
  go_ret
  exact ⟨by first | rfl | simp_all, hb⟩

set_option maxRecDepth 20000 in
set_option maxHeartbeats 400000 in
theorem sc_ii_c (na : Int) (fa : Nat) (sa : ByteArray) (ra : Int) (nb : Int) (fb : Nat) (sb : ByteArray) (rb : Int) (w : World) (hsa : sa.size ≤ maxLen) (hsb : sb.size ≤ maxLen) (hva : vok 2 na fa sa ra = true) (hvb : vok 2 nb fb sb rb = true) (h : ¬ na < nb) (h' : ¬ nb < na) :
    Calls Try.prog 26 #[VV 2 na fa sa ra, VV 2 nb fb sb rb] w fun e w' => e = .returned (.int .i64 (0)) ∧ Below w.heap.size w w' := by
  go_enter Try.func26, Try.ntmps26
  go_wp2_with fail
  refine (vok_any _ _ _ _ _ _ hsa).mono ?_
  rintro e w129 ⟨rfl, hx⟩
  obtain ⟨hb, a0, a1, a2, a3, a4, b0, b1, b2, b3, b4⟩ := box10 hx
  clear hx
  go_wp2_with fail
  refine (vok_any _ _ _ _ _ _ hsb).mono ?_
  rintro e w130 ⟨rfl, hx⟩
  replace hb := hb.trans (hx.mono hb.size)
  replace a0 := cell_later hx a0; replace a1 := cell_later hx a1; replace a2 := cell_later hx a2; replace a3 := cell_later hx a3; replace a4 := cell_later hx a4; replace b0 := cell_later hx b0; replace b1 := cell_later hx b1; replace b2 := cell_later hx b2; replace b3 := cell_later hx b3; replace b4 := cell_later hx b4
  clear hx
  go_wp2_with fail
  refine (num_any _ _ _ _ _ _).mono ?_
  rintro e w131 ⟨rfl, hx⟩
  replace hb := hb.trans (hx.mono hb.size)
  replace a0 := cell_later hx a0; replace a1 := cell_later hx a1; replace a2 := cell_later hx a2; replace a3 := cell_later hx a3; replace a4 := cell_later hx a4; replace b0 := cell_later hx b0; replace b1 := cell_later hx b1; replace b2 := cell_later hx b2; replace b3 := cell_later hx b3; replace b4 := cell_later hx b4
  clear hx
  go_wp2_with fail
  refine (num_any _ _ _ _ _ _).mono ?_
  rintro e w132 ⟨rfl, hx⟩
  replace hb := hb.trans (hx.mono hb.size)
  replace a0 := cell_later hx a0; replace a1 := cell_later hx a1; replace a2 := cell_later hx a2; replace a3 := cell_later hx a3; replace a4 := cell_later hx a4; replace b0 := cell_later hx b0; replace b1 := cell_later hx b1; replace b2 := cell_later hx b2; replace b3 := cell_later hx b3; replace b4 := cell_later hx b4
  clear hx
  go_wp2_with fail
  go_ret
  exact ⟨by first | rfl | simp_all, hb⟩

set_option maxRecDepth 20000 in
set_option maxHeartbeats 400000 in
theorem sc_if (na : Int) (fa : Nat) (sa : ByteArray) (ra : Int) (nb : Int) (fb : Nat) (sb : ByteArray) (rb : Int) (w : World) (hsa : sa.size ≤ maxLen) (hsb : sb.size ≤ maxLen) (hva : vok 2 na fa sa ra = true) (hvb : vok 3 nb fb sb rb = true) (hf : fb < 18446744073709551616) (h1 : FloatKind.f64.format.order fb fb = some .eq) :
    Calls Try.prog 26 #[VV 2 na fa sa ra, VV 3 nb fb sb rb] w fun e w' => e = .returned (.int .i64 (ifc na fb)) ∧ Below w.heap.size w w' := by
  go_enter Try.func26, Try.ntmps26
  go_wp2_with fail
  refine (vok_any _ _ _ _ _ _ hsa).mono ?_
  rintro e w133 ⟨rfl, hx⟩
  obtain ⟨hb, a0, a1, a2, a3, a4, b0, b1, b2, b3, b4⟩ := box10 hx
  clear hx
  go_wp2_with fail
  refine (vok_any _ _ _ _ _ _ hsb).mono ?_
  rintro e w134 ⟨rfl, hx⟩
  replace hb := hb.trans (hx.mono hb.size)
  replace a0 := cell_later hx a0; replace a1 := cell_later hx a1; replace a2 := cell_later hx a2; replace a3 := cell_later hx a3; replace a4 := cell_later hx a4; replace b0 := cell_later hx b0; replace b1 := cell_later hx b1; replace b2 := cell_later hx b2; replace b3 := cell_later hx b3; replace b4 := cell_later hx b4
  clear hx
  go_wp2_with fail
  refine (num_any _ _ _ _ _ _).mono ?_
  rintro e w135 ⟨rfl, hx⟩
  replace hb := hb.trans (hx.mono hb.size)
  replace a0 := cell_later hx a0; replace a1 := cell_later hx a1; replace a2 := cell_later hx a2; replace a3 := cell_later hx a3; replace a4 := cell_later hx a4; replace b0 := cell_later hx b0; replace b1 := cell_later hx b1; replace b2 := cell_later hx b2; replace b3 := cell_later hx b3; replace b4 := cell_later hx b4
  clear hx
  go_wp2_with fail
  refine (num_any _ _ _ _ _ _).mono ?_
  rintro e w136 ⟨rfl, hx⟩
  replace hb := hb.trans (hx.mono hb.size)
  replace a0 := cell_later hx a0; replace a1 := cell_later hx a1; replace a2 := cell_later hx a2; replace a3 := cell_later hx a3; replace a4 := cell_later hx a4; replace b0 := cell_later hx b0; replace b1 := cell_later hx b1; replace b2 := cell_later hx b2; replace b3 := cell_later hx b3; replace b4 := cell_later hx b4
  clear hx
  go_wp2_with fail
  refine (nan_any _ _).mono ?_
  rintro e wq3 ⟨rfl, rfl⟩
  go_wp2_with fail
  refine (sif_any _ _ _ hf h1).mono ?_
  rintro e wq4 ⟨rfl, rfl⟩
  go_wp2_with fail
  go_ret
  exact ⟨by first | rfl | simp_all, hb⟩

set_option maxRecDepth 20000 in
set_option maxHeartbeats 400000 in
theorem sc_if_nan (na : Int) (fa : Nat) (sa : ByteArray) (ra : Int) (nb : Int) (fb : Nat) (sb : ByteArray) (rb : Int) (w : World) (hsa : sa.size ≤ maxLen) (hsb : sb.size ≤ maxLen) (hva : vok 2 na fa sa ra = true) (hvb : vok 3 nb fb sb rb = true) (h1 : FloatKind.f64.format.order fb fb = none) :
    Calls Try.prog 26 #[VV 2 na fa sa ra, VV 3 nb fb sb rb] w fun e w' => e = .returned (.int .i64 (2)) ∧ Below w.heap.size w w' := by
  go_enter Try.func26, Try.ntmps26
  go_wp2_with fail
  refine (vok_any _ _ _ _ _ _ hsa).mono ?_
  rintro e w137 ⟨rfl, hx⟩
  obtain ⟨hb, a0, a1, a2, a3, a4, b0, b1, b2, b3, b4⟩ := box10 hx
  clear hx
  go_wp2_with fail
  refine (vok_any _ _ _ _ _ _ hsb).mono ?_
  rintro e w138 ⟨rfl, hx⟩
  replace hb := hb.trans (hx.mono hb.size)
  replace a0 := cell_later hx a0; replace a1 := cell_later hx a1; replace a2 := cell_later hx a2; replace a3 := cell_later hx a3; replace a4 := cell_later hx a4; replace b0 := cell_later hx b0; replace b1 := cell_later hx b1; replace b2 := cell_later hx b2; replace b3 := cell_later hx b3; replace b4 := cell_later hx b4
  clear hx
  go_wp2_with fail
  refine (num_any _ _ _ _ _ _).mono ?_
  rintro e w139 ⟨rfl, hx⟩
  replace hb := hb.trans (hx.mono hb.size)
  replace a0 := cell_later hx a0; replace a1 := cell_later hx a1; replace a2 := cell_later hx a2; replace a3 := cell_later hx a3; replace a4 := cell_later hx a4; replace b0 := cell_later hx b0; replace b1 := cell_later hx b1; replace b2 := cell_later hx b2; replace b3 := cell_later hx b3; replace b4 := cell_later hx b4
  clear hx
  go_wp2_with fail
  refine (num_any _ _ _ _ _ _).mono ?_
  rintro e w140 ⟨rfl, hx⟩
  replace hb := hb.trans (hx.mono hb.size)
  replace a0 := cell_later hx a0; replace a1 := cell_later hx a1; replace a2 := cell_later hx a2; replace a3 := cell_later hx a3; replace a4 := cell_later hx a4; replace b0 := cell_later hx b0; replace b1 := cell_later hx b1; replace b2 := cell_later hx b2; replace b3 := cell_later hx b3; replace b4 := cell_later hx b4
  clear hx
  go_wp2_with fail
  refine (nan_any _ _).mono ?_
  rintro e wq3 ⟨rfl, rfl⟩
  go_wp2_with fail
  go_ret
  exact ⟨by first | rfl | simp_all, hb⟩

set_option maxRecDepth 20000 in
set_option maxHeartbeats 400000 in
theorem sc_fi_m1 (na : Int) (fa : Nat) (sa : ByteArray) (ra : Int) (nb : Int) (fb : Nat) (sb : ByteArray) (rb : Int) (w : World) (hsa : sa.size ≤ maxLen) (hsb : sb.size ≤ maxLen) (hva : vok 3 na fa sa ra = true) (hvb : vok 2 nb fb sb rb = true) (hf : fa < 18446744073709551616) (h1 : FloatKind.f64.format.order fa fa = some .eq) (hc : ifc nb fa = -1) :
    Calls Try.prog 26 #[VV 3 na fa sa ra, VV 2 nb fb sb rb] w fun e w' => e = .returned (.int .i64 (1)) ∧ Below w.heap.size w w' := by
  go_enter Try.func26, Try.ntmps26
  go_wp2_with fail
  refine (vok_any _ _ _ _ _ _ hsa).mono ?_
  rintro e w141 ⟨rfl, hx⟩
  obtain ⟨hb, a0, a1, a2, a3, a4, b0, b1, b2, b3, b4⟩ := box10 hx
  clear hx
  go_wp2_with fail
  refine (vok_any _ _ _ _ _ _ hsb).mono ?_
  rintro e w142 ⟨rfl, hx⟩
  replace hb := hb.trans (hx.mono hb.size)
  replace a0 := cell_later hx a0; replace a1 := cell_later hx a1; replace a2 := cell_later hx a2; replace a3 := cell_later hx a3; replace a4 := cell_later hx a4; replace b0 := cell_later hx b0; replace b1 := cell_later hx b1; replace b2 := cell_later hx b2; replace b3 := cell_later hx b3; replace b4 := cell_later hx b4
  clear hx
  go_wp2_with fail
  refine (num_any _ _ _ _ _ _).mono ?_
  rintro e w143 ⟨rfl, hx⟩
  replace hb := hb.trans (hx.mono hb.size)
  replace a0 := cell_later hx a0; replace a1 := cell_later hx a1; replace a2 := cell_later hx a2; replace a3 := cell_later hx a3; replace a4 := cell_later hx a4; replace b0 := cell_later hx b0; replace b1 := cell_later hx b1; replace b2 := cell_later hx b2; replace b3 := cell_later hx b3; replace b4 := cell_later hx b4
  clear hx
  go_wp2_with fail
  refine (num_any _ _ _ _ _ _).mono ?_
  rintro e w144 ⟨rfl, hx⟩
  replace hb := hb.trans (hx.mono hb.size)
  replace a0 := cell_later hx a0; replace a1 := cell_later hx a1; replace a2 := cell_later hx a2; replace a3 := cell_later hx a3; replace a4 := cell_later hx a4; replace b0 := cell_later hx b0; replace b1 := cell_later hx b1; replace b2 := cell_later hx b2; replace b3 := cell_later hx b3; replace b4 := cell_later hx b4
  clear hx
  go_wp2_with fail
  refine (nan_any _ _).mono ?_
  rintro e wq3 ⟨rfl, rfl⟩
  go_wp2_with fail
  refine (sif_any _ _ _ hf h1).mono ?_
  rintro e wq4 ⟨rfl, rfl⟩
  go_wp2_with fail
  go_ret
  exact ⟨by first | rfl | simp_all, hb⟩

set_option maxRecDepth 20000 in
set_option maxHeartbeats 400000 in
theorem sc_fi_0 (na : Int) (fa : Nat) (sa : ByteArray) (ra : Int) (nb : Int) (fb : Nat) (sb : ByteArray) (rb : Int) (w : World) (hsa : sa.size ≤ maxLen) (hsb : sb.size ≤ maxLen) (hva : vok 3 na fa sa ra = true) (hvb : vok 2 nb fb sb rb = true) (hf : fa < 18446744073709551616) (h1 : FloatKind.f64.format.order fa fa = some .eq) (hc : ifc nb fa = 0) :
    Calls Try.prog 26 #[VV 3 na fa sa ra, VV 2 nb fb sb rb] w fun e w' => e = .returned (.int .i64 (0)) ∧ Below w.heap.size w w' := by
  go_enter Try.func26, Try.ntmps26
  go_wp2_with fail
  refine (vok_any _ _ _ _ _ _ hsa).mono ?_
  rintro e w145 ⟨rfl, hx⟩
  obtain ⟨hb, a0, a1, a2, a3, a4, b0, b1, b2, b3, b4⟩ := box10 hx
  clear hx
  go_wp2_with fail
  refine (vok_any _ _ _ _ _ _ hsb).mono ?_
  rintro e w146 ⟨rfl, hx⟩
  replace hb := hb.trans (hx.mono hb.size)
  replace a0 := cell_later hx a0; replace a1 := cell_later hx a1; replace a2 := cell_later hx a2; replace a3 := cell_later hx a3; replace a4 := cell_later hx a4; replace b0 := cell_later hx b0; replace b1 := cell_later hx b1; replace b2 := cell_later hx b2; replace b3 := cell_later hx b3; replace b4 := cell_later hx b4
  clear hx
  go_wp2_with fail
  refine (num_any _ _ _ _ _ _).mono ?_
  rintro e w147 ⟨rfl, hx⟩
  replace hb := hb.trans (hx.mono hb.size)
  replace a0 := cell_later hx a0; replace a1 := cell_later hx a1; replace a2 := cell_later hx a2; replace a3 := cell_later hx a3; replace a4 := cell_later hx a4; replace b0 := cell_later hx b0; replace b1 := cell_later hx b1; replace b2 := cell_later hx b2; replace b3 := cell_later hx b3; replace b4 := cell_later hx b4
  clear hx
  go_wp2_with fail
  refine (num_any _ _ _ _ _ _).mono ?_
  rintro e w148 ⟨rfl, hx⟩
  replace hb := hb.trans (hx.mono hb.size)
  replace a0 := cell_later hx a0; replace a1 := cell_later hx a1; replace a2 := cell_later hx a2; replace a3 := cell_later hx a3; replace a4 := cell_later hx a4; replace b0 := cell_later hx b0; replace b1 := cell_later hx b1; replace b2 := cell_later hx b2; replace b3 := cell_later hx b3; replace b4 := cell_later hx b4
  clear hx
  go_wp2_with fail
  refine (nan_any _ _).mono ?_
  rintro e wq3 ⟨rfl, rfl⟩
  go_wp2_with fail
  refine (sif_any _ _ _ hf h1).mono ?_
  rintro e wq4 ⟨rfl, rfl⟩
  go_wp2_with fail
  go_ret
  exact ⟨by first | rfl | simp_all, hb⟩

set_option maxRecDepth 20000 in
set_option maxHeartbeats 400000 in
theorem sc_fi_1 (na : Int) (fa : Nat) (sa : ByteArray) (ra : Int) (nb : Int) (fb : Nat) (sb : ByteArray) (rb : Int) (w : World) (hsa : sa.size ≤ maxLen) (hsb : sb.size ≤ maxLen) (hva : vok 3 na fa sa ra = true) (hvb : vok 2 nb fb sb rb = true) (hf : fa < 18446744073709551616) (h1 : FloatKind.f64.format.order fa fa = some .eq) (hc : ifc nb fa = 1) :
    Calls Try.prog 26 #[VV 3 na fa sa ra, VV 2 nb fb sb rb] w fun e w' => e = .returned (.int .i64 (-1)) ∧ Below w.heap.size w w' := by
  go_enter Try.func26, Try.ntmps26
  go_wp2_with fail
  refine (vok_any _ _ _ _ _ _ hsa).mono ?_
  rintro e w149 ⟨rfl, hx⟩
  obtain ⟨hb, a0, a1, a2, a3, a4, b0, b1, b2, b3, b4⟩ := box10 hx
  clear hx
  go_wp2_with fail
  refine (vok_any _ _ _ _ _ _ hsb).mono ?_
  rintro e w150 ⟨rfl, hx⟩
  replace hb := hb.trans (hx.mono hb.size)
  replace a0 := cell_later hx a0; replace a1 := cell_later hx a1; replace a2 := cell_later hx a2; replace a3 := cell_later hx a3; replace a4 := cell_later hx a4; replace b0 := cell_later hx b0; replace b1 := cell_later hx b1; replace b2 := cell_later hx b2; replace b3 := cell_later hx b3; replace b4 := cell_later hx b4
  clear hx
  go_wp2_with fail
  refine (num_any _ _ _ _ _ _).mono ?_
  rintro e w151 ⟨rfl, hx⟩
  replace hb := hb.trans (hx.mono hb.size)
  replace a0 := cell_later hx a0; replace a1 := cell_later hx a1; replace a2 := cell_later hx a2; replace a3 := cell_later hx a3; replace a4 := cell_later hx a4; replace b0 := cell_later hx b0; replace b1 := cell_later hx b1; replace b2 := cell_later hx b2; replace b3 := cell_later hx b3; replace b4 := cell_later hx b4
  clear hx
  go_wp2_with fail
  refine (num_any _ _ _ _ _ _).mono ?_
  rintro e w152 ⟨rfl, hx⟩
  replace hb := hb.trans (hx.mono hb.size)
  replace a0 := cell_later hx a0; replace a1 := cell_later hx a1; replace a2 := cell_later hx a2; replace a3 := cell_later hx a3; replace a4 := cell_later hx a4; replace b0 := cell_later hx b0; replace b1 := cell_later hx b1; replace b2 := cell_later hx b2; replace b3 := cell_later hx b3; replace b4 := cell_later hx b4
  clear hx
  go_wp2_with fail
  refine (nan_any _ _).mono ?_
  rintro e wq3 ⟨rfl, rfl⟩
  go_wp2_with fail
  refine (sif_any _ _ _ hf h1).mono ?_
  rintro e wq4 ⟨rfl, rfl⟩
  go_wp2_with fail
  go_ret
  exact ⟨by first | rfl | simp_all, hb⟩

set_option maxRecDepth 20000 in
set_option maxHeartbeats 400000 in
theorem sc_fi_nan (na : Int) (fa : Nat) (sa : ByteArray) (ra : Int) (nb : Int) (fb : Nat) (sb : ByteArray) (rb : Int) (w : World) (hsa : sa.size ≤ maxLen) (hsb : sb.size ≤ maxLen) (hva : vok 3 na fa sa ra = true) (hvb : vok 2 nb fb sb rb = true) (h1 : FloatKind.f64.format.order fa fa = none) :
    Calls Try.prog 26 #[VV 3 na fa sa ra, VV 2 nb fb sb rb] w fun e w' => e = .returned (.int .i64 (2)) ∧ Below w.heap.size w w' := by
  go_enter Try.func26, Try.ntmps26
  go_wp2_with fail
  refine (vok_any _ _ _ _ _ _ hsa).mono ?_
  rintro e w153 ⟨rfl, hx⟩
  obtain ⟨hb, a0, a1, a2, a3, a4, b0, b1, b2, b3, b4⟩ := box10 hx
  clear hx
  go_wp2_with fail
  refine (vok_any _ _ _ _ _ _ hsb).mono ?_
  rintro e w154 ⟨rfl, hx⟩
  replace hb := hb.trans (hx.mono hb.size)
  replace a0 := cell_later hx a0; replace a1 := cell_later hx a1; replace a2 := cell_later hx a2; replace a3 := cell_later hx a3; replace a4 := cell_later hx a4; replace b0 := cell_later hx b0; replace b1 := cell_later hx b1; replace b2 := cell_later hx b2; replace b3 := cell_later hx b3; replace b4 := cell_later hx b4
  clear hx
  go_wp2_with fail
  refine (num_any _ _ _ _ _ _).mono ?_
  rintro e w155 ⟨rfl, hx⟩
  replace hb := hb.trans (hx.mono hb.size)
  replace a0 := cell_later hx a0; replace a1 := cell_later hx a1; replace a2 := cell_later hx a2; replace a3 := cell_later hx a3; replace a4 := cell_later hx a4; replace b0 := cell_later hx b0; replace b1 := cell_later hx b1; replace b2 := cell_later hx b2; replace b3 := cell_later hx b3; replace b4 := cell_later hx b4
  clear hx
  go_wp2_with fail
  refine (num_any _ _ _ _ _ _).mono ?_
  rintro e w156 ⟨rfl, hx⟩
  replace hb := hb.trans (hx.mono hb.size)
  replace a0 := cell_later hx a0; replace a1 := cell_later hx a1; replace a2 := cell_later hx a2; replace a3 := cell_later hx a3; replace a4 := cell_later hx a4; replace b0 := cell_later hx b0; replace b1 := cell_later hx b1; replace b2 := cell_later hx b2; replace b3 := cell_later hx b3; replace b4 := cell_later hx b4
  clear hx
  go_wp2_with fail
  refine (nan_any _ _).mono ?_
  rintro e wq3 ⟨rfl, rfl⟩
  go_wp2_with fail
  go_ret
  exact ⟨by first | rfl | simp_all, hb⟩

set_option maxRecDepth 20000 in
set_option maxHeartbeats 400000 in
theorem sc_ff_nan1 (na : Int) (fa : Nat) (sa : ByteArray) (ra : Int) (nb : Int) (fb : Nat) (sb : ByteArray) (rb : Int) (w : World) (hsa : sa.size ≤ maxLen) (hsb : sb.size ≤ maxLen) (hva : vok 3 na fa sa ra = true) (hvb : vok 3 nb fb sb rb = true) (h1 : FloatKind.f64.format.order fa fa = none) :
    Calls Try.prog 26 #[VV 3 na fa sa ra, VV 3 nb fb sb rb] w fun e w' => e = .returned (.int .i64 (2)) ∧ Below w.heap.size w w' := by
  go_enter Try.func26, Try.ntmps26
  go_wp2_with fail
  refine (vok_any _ _ _ _ _ _ hsa).mono ?_
  rintro e w157 ⟨rfl, hx⟩
  obtain ⟨hb, a0, a1, a2, a3, a4, b0, b1, b2, b3, b4⟩ := box10 hx
  clear hx
  go_wp2_with fail
  refine (vok_any _ _ _ _ _ _ hsb).mono ?_
  rintro e w158 ⟨rfl, hx⟩
  replace hb := hb.trans (hx.mono hb.size)
  replace a0 := cell_later hx a0; replace a1 := cell_later hx a1; replace a2 := cell_later hx a2; replace a3 := cell_later hx a3; replace a4 := cell_later hx a4; replace b0 := cell_later hx b0; replace b1 := cell_later hx b1; replace b2 := cell_later hx b2; replace b3 := cell_later hx b3; replace b4 := cell_later hx b4
  clear hx
  go_wp2_with fail
  refine (num_any _ _ _ _ _ _).mono ?_
  rintro e w159 ⟨rfl, hx⟩
  replace hb := hb.trans (hx.mono hb.size)
  replace a0 := cell_later hx a0; replace a1 := cell_later hx a1; replace a2 := cell_later hx a2; replace a3 := cell_later hx a3; replace a4 := cell_later hx a4; replace b0 := cell_later hx b0; replace b1 := cell_later hx b1; replace b2 := cell_later hx b2; replace b3 := cell_later hx b3; replace b4 := cell_later hx b4
  clear hx
  go_wp2_with fail
  refine (num_any _ _ _ _ _ _).mono ?_
  rintro e w160 ⟨rfl, hx⟩
  replace hb := hb.trans (hx.mono hb.size)
  replace a0 := cell_later hx a0; replace a1 := cell_later hx a1; replace a2 := cell_later hx a2; replace a3 := cell_later hx a3; replace a4 := cell_later hx a4; replace b0 := cell_later hx b0; replace b1 := cell_later hx b1; replace b2 := cell_later hx b2; replace b3 := cell_later hx b3; replace b4 := cell_later hx b4
  clear hx
  go_wp2_with fail
  refine (nan_any _ _).mono ?_
  rintro e wq3 ⟨rfl, rfl⟩
  go_wp2_with fail
  go_ret
  exact ⟨by first | rfl | simp_all, hb⟩

set_option maxRecDepth 20000 in
set_option maxHeartbeats 400000 in
theorem sc_ff_nan2 (na : Int) (fa : Nat) (sa : ByteArray) (ra : Int) (nb : Int) (fb : Nat) (sb : ByteArray) (rb : Int) (w : World) (hsa : sa.size ≤ maxLen) (hsb : sb.size ≤ maxLen) (hva : vok 3 na fa sa ra = true) (hvb : vok 3 nb fb sb rb = true) (h1 : FloatKind.f64.format.order fa fa = some .eq) (h2 : FloatKind.f64.format.order fb fb = none) :
    Calls Try.prog 26 #[VV 3 na fa sa ra, VV 3 nb fb sb rb] w fun e w' => e = .returned (.int .i64 (2)) ∧ Below w.heap.size w w' := by
  go_enter Try.func26, Try.ntmps26
  go_wp2_with fail
  refine (vok_any _ _ _ _ _ _ hsa).mono ?_
  rintro e w161 ⟨rfl, hx⟩
  obtain ⟨hb, a0, a1, a2, a3, a4, b0, b1, b2, b3, b4⟩ := box10 hx
  clear hx
  go_wp2_with fail
  refine (vok_any _ _ _ _ _ _ hsb).mono ?_
  rintro e w162 ⟨rfl, hx⟩
  replace hb := hb.trans (hx.mono hb.size)
  replace a0 := cell_later hx a0; replace a1 := cell_later hx a1; replace a2 := cell_later hx a2; replace a3 := cell_later hx a3; replace a4 := cell_later hx a4; replace b0 := cell_later hx b0; replace b1 := cell_later hx b1; replace b2 := cell_later hx b2; replace b3 := cell_later hx b3; replace b4 := cell_later hx b4
  clear hx
  go_wp2_with fail
  refine (num_any _ _ _ _ _ _).mono ?_
  rintro e w163 ⟨rfl, hx⟩
  replace hb := hb.trans (hx.mono hb.size)
  replace a0 := cell_later hx a0; replace a1 := cell_later hx a1; replace a2 := cell_later hx a2; replace a3 := cell_later hx a3; replace a4 := cell_later hx a4; replace b0 := cell_later hx b0; replace b1 := cell_later hx b1; replace b2 := cell_later hx b2; replace b3 := cell_later hx b3; replace b4 := cell_later hx b4
  clear hx
  go_wp2_with fail
  refine (num_any _ _ _ _ _ _).mono ?_
  rintro e w164 ⟨rfl, hx⟩
  replace hb := hb.trans (hx.mono hb.size)
  replace a0 := cell_later hx a0; replace a1 := cell_later hx a1; replace a2 := cell_later hx a2; replace a3 := cell_later hx a3; replace a4 := cell_later hx a4; replace b0 := cell_later hx b0; replace b1 := cell_later hx b1; replace b2 := cell_later hx b2; replace b3 := cell_later hx b3; replace b4 := cell_later hx b4
  clear hx
  go_wp2_with fail
  refine (nan_any _ _).mono ?_
  rintro e wq3 ⟨rfl, rfl⟩
  go_wp2_with fail
  refine (nan_any _ _).mono ?_
  rintro e wq4 ⟨rfl, rfl⟩
  go_wp2_with fail
  go_ret
  exact ⟨by first | rfl | simp_all, hb⟩

set_option maxRecDepth 20000 in
set_option maxHeartbeats 400000 in
theorem sc_ff_lt (na : Int) (fa : Nat) (sa : ByteArray) (ra : Int) (nb : Int) (fb : Nat) (sb : ByteArray) (rb : Int) (w : World) (hsa : sa.size ≤ maxLen) (hsb : sb.size ≤ maxLen) (hva : vok 3 na fa sa ra = true) (hvb : vok 3 nb fb sb rb = true) (h1 : FloatKind.f64.format.order fa fa = some .eq) (h2 : FloatKind.f64.format.order fb fb = some .eq) (h3 : FloatKind.f64.format.order fa fb = some .lt) :
    Calls Try.prog 26 #[VV 3 na fa sa ra, VV 3 nb fb sb rb] w fun e w' => e = .returned (.int .i64 (-1)) ∧ Below w.heap.size w w' := by
  go_enter Try.func26, Try.ntmps26
  go_wp2_with fail
  refine (vok_any _ _ _ _ _ _ hsa).mono ?_
  rintro e w165 ⟨rfl, hx⟩
  obtain ⟨hb, a0, a1, a2, a3, a4, b0, b1, b2, b3, b4⟩ := box10 hx
  clear hx
  go_wp2_with fail
  refine (vok_any _ _ _ _ _ _ hsb).mono ?_
  rintro e w166 ⟨rfl, hx⟩
  replace hb := hb.trans (hx.mono hb.size)
  replace a0 := cell_later hx a0; replace a1 := cell_later hx a1; replace a2 := cell_later hx a2; replace a3 := cell_later hx a3; replace a4 := cell_later hx a4; replace b0 := cell_later hx b0; replace b1 := cell_later hx b1; replace b2 := cell_later hx b2; replace b3 := cell_later hx b3; replace b4 := cell_later hx b4
  clear hx
  go_wp2_with fail
  refine (num_any _ _ _ _ _ _).mono ?_
  rintro e w167 ⟨rfl, hx⟩
  replace hb := hb.trans (hx.mono hb.size)
  replace a0 := cell_later hx a0; replace a1 := cell_later hx a1; replace a2 := cell_later hx a2; replace a3 := cell_later hx a3; replace a4 := cell_later hx a4; replace b0 := cell_later hx b0; replace b1 := cell_later hx b1; replace b2 := cell_later hx b2; replace b3 := cell_later hx b3; replace b4 := cell_later hx b4
  clear hx
  go_wp2_with fail
  refine (num_any _ _ _ _ _ _).mono ?_
  rintro e w168 ⟨rfl, hx⟩
  replace hb := hb.trans (hx.mono hb.size)
  replace a0 := cell_later hx a0; replace a1 := cell_later hx a1; replace a2 := cell_later hx a2; replace a3 := cell_later hx a3; replace a4 := cell_later hx a4; replace b0 := cell_later hx b0; replace b1 := cell_later hx b1; replace b2 := cell_later hx b2; replace b3 := cell_later hx b3; replace b4 := cell_later hx b4
  clear hx
  go_wp2_with fail
  refine (nan_any _ _).mono ?_
  rintro e wq3 ⟨rfl, rfl⟩
  go_wp2_with fail
  refine (nan_any _ _).mono ?_
  rintro e wq4 ⟨rfl, rfl⟩
  go_wp2_with fail
  go_ret
  exact ⟨by first | rfl | simp_all, hb⟩

set_option maxRecDepth 20000 in
set_option maxHeartbeats 400000 in
theorem sc_ff_eq (na : Int) (fa : Nat) (sa : ByteArray) (ra : Int) (nb : Int) (fb : Nat) (sb : ByteArray) (rb : Int) (w : World) (hsa : sa.size ≤ maxLen) (hsb : sb.size ≤ maxLen) (hva : vok 3 na fa sa ra = true) (hvb : vok 3 nb fb sb rb = true) (h1 : FloatKind.f64.format.order fa fa = some .eq) (h2 : FloatKind.f64.format.order fb fb = some .eq) (h3 : FloatKind.f64.format.order fa fb = some .eq) :
    Calls Try.prog 26 #[VV 3 na fa sa ra, VV 3 nb fb sb rb] w fun e w' => e = .returned (.int .i64 (0)) ∧ Below w.heap.size w w' := by
  go_enter Try.func26, Try.ntmps26
  go_wp2_with fail
  refine (vok_any _ _ _ _ _ _ hsa).mono ?_
  rintro e w169 ⟨rfl, hx⟩
  obtain ⟨hb, a0, a1, a2, a3, a4, b0, b1, b2, b3, b4⟩ := box10 hx
  clear hx
  go_wp2_with fail
  refine (vok_any _ _ _ _ _ _ hsb).mono ?_
  rintro e w170 ⟨rfl, hx⟩
  replace hb := hb.trans (hx.mono hb.size)
  replace a0 := cell_later hx a0; replace a1 := cell_later hx a1; replace a2 := cell_later hx a2; replace a3 := cell_later hx a3; replace a4 := cell_later hx a4; replace b0 := cell_later hx b0; replace b1 := cell_later hx b1; replace b2 := cell_later hx b2; replace b3 := cell_later hx b3; replace b4 := cell_later hx b4
  clear hx
  go_wp2_with fail
  refine (num_any _ _ _ _ _ _).mono ?_
  rintro e w171 ⟨rfl, hx⟩
  replace hb := hb.trans (hx.mono hb.size)
  replace a0 := cell_later hx a0; replace a1 := cell_later hx a1; replace a2 := cell_later hx a2; replace a3 := cell_later hx a3; replace a4 := cell_later hx a4; replace b0 := cell_later hx b0; replace b1 := cell_later hx b1; replace b2 := cell_later hx b2; replace b3 := cell_later hx b3; replace b4 := cell_later hx b4
  clear hx
  go_wp2_with fail
  refine (num_any _ _ _ _ _ _).mono ?_
  rintro e w172 ⟨rfl, hx⟩
  replace hb := hb.trans (hx.mono hb.size)
  replace a0 := cell_later hx a0; replace a1 := cell_later hx a1; replace a2 := cell_later hx a2; replace a3 := cell_later hx a3; replace a4 := cell_later hx a4; replace b0 := cell_later hx b0; replace b1 := cell_later hx b1; replace b2 := cell_later hx b2; replace b3 := cell_later hx b3; replace b4 := cell_later hx b4
  clear hx
  go_wp2_with fail
  refine (nan_any _ _).mono ?_
  rintro e wq3 ⟨rfl, rfl⟩
  go_wp2_with fail
  refine (nan_any _ _).mono ?_
  rintro e wq4 ⟨rfl, rfl⟩
  go_wp2_with fail
  go_ret
  exact ⟨by first | rfl | simp_all, hb⟩

set_option maxRecDepth 20000 in
set_option maxHeartbeats 400000 in
theorem sc_ff_gt (na : Int) (fa : Nat) (sa : ByteArray) (ra : Int) (nb : Int) (fb : Nat) (sb : ByteArray) (rb : Int) (w : World) (hsa : sa.size ≤ maxLen) (hsb : sb.size ≤ maxLen) (hva : vok 3 na fa sa ra = true) (hvb : vok 3 nb fb sb rb = true) (h1 : FloatKind.f64.format.order fa fa = some .eq) (h2 : FloatKind.f64.format.order fb fb = some .eq) (h3 : FloatKind.f64.format.order fa fb = some .gt) :
    Calls Try.prog 26 #[VV 3 na fa sa ra, VV 3 nb fb sb rb] w fun e w' => e = .returned (.int .i64 (1)) ∧ Below w.heap.size w w' := by
  go_enter Try.func26, Try.ntmps26
  go_wp2_with fail
  refine (vok_any _ _ _ _ _ _ hsa).mono ?_
  rintro e w173 ⟨rfl, hx⟩
  obtain ⟨hb, a0, a1, a2, a3, a4, b0, b1, b2, b3, b4⟩ := box10 hx
  clear hx
  go_wp2_with fail
  refine (vok_any _ _ _ _ _ _ hsb).mono ?_
  rintro e w174 ⟨rfl, hx⟩
  replace hb := hb.trans (hx.mono hb.size)
  replace a0 := cell_later hx a0; replace a1 := cell_later hx a1; replace a2 := cell_later hx a2; replace a3 := cell_later hx a3; replace a4 := cell_later hx a4; replace b0 := cell_later hx b0; replace b1 := cell_later hx b1; replace b2 := cell_later hx b2; replace b3 := cell_later hx b3; replace b4 := cell_later hx b4
  clear hx
  go_wp2_with fail
  refine (num_any _ _ _ _ _ _).mono ?_
  rintro e w175 ⟨rfl, hx⟩
  replace hb := hb.trans (hx.mono hb.size)
  replace a0 := cell_later hx a0; replace a1 := cell_later hx a1; replace a2 := cell_later hx a2; replace a3 := cell_later hx a3; replace a4 := cell_later hx a4; replace b0 := cell_later hx b0; replace b1 := cell_later hx b1; replace b2 := cell_later hx b2; replace b3 := cell_later hx b3; replace b4 := cell_later hx b4
  clear hx
  go_wp2_with fail
  refine (num_any _ _ _ _ _ _).mono ?_
  rintro e w176 ⟨rfl, hx⟩
  replace hb := hb.trans (hx.mono hb.size)
  replace a0 := cell_later hx a0; replace a1 := cell_later hx a1; replace a2 := cell_later hx a2; replace a3 := cell_later hx a3; replace a4 := cell_later hx a4; replace b0 := cell_later hx b0; replace b1 := cell_later hx b1; replace b2 := cell_later hx b2; replace b3 := cell_later hx b3; replace b4 := cell_later hx b4
  clear hx
  go_wp2_with fail
  refine (nan_any _ _).mono ?_
  rintro e wq3 ⟨rfl, rfl⟩
  go_wp2_with fail
  refine (nan_any _ _).mono ?_
  rintro e wq4 ⟨rfl, rfl⟩
  go_wp2_with fail
  go_ret
  exact ⟨by first | rfl | simp_all, hb⟩
end Go.Proofs.Ytkipmogmejfmcaa
