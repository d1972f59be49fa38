/-
  OWN WORK. Compare, the program's: the two terms made in an order that is left open.
-/
import Derived.Test.YtkipmogmejfmcaaCompare
import Derived.Deep.RegionWith
namespace Go.Proofs.Ytkipmogmejfmcaa
open Go.RowKit
set_option linter.unusedVariables false

theorem und {B : Nat} {w w' : World} (h : Below B w.drew w') : Below B w w' := ⟨h.os, h.tape, h.output, h.size, h.block⟩

theorem box10d {w w1 : World} {a0 a1 a2 a3 a4 b0 b1 b2 b3 b4 : Value} {t u : TypeId} (hb : Below ((w.alloc (.cells #[a0, a1, a2, a3, a4] t)).alloc (.cells #[b0, b1, b2, b3, b4] u)).drew.heap.size ((w.alloc (.cells #[a0, a1, a2, a3, a4] t)).alloc (.cells #[b0, b1, b2, b3, b4] u)).drew w1) :
    Below w.heap.size w w1 ∧ w1.cell? ⟨w.heap.size, 0, none⟩ = some a0 ∧ w1.cell? ⟨w.heap.size, 1, none⟩ = some a1 ∧ w1.cell? ⟨w.heap.size, 2, none⟩ = some a2 ∧ w1.cell? ⟨w.heap.size, 3, none⟩ = some a3 ∧ w1.cell? ⟨w.heap.size, 4, none⟩ = some a4 ∧
      w1.cell? ⟨w.heap.size + 1, 0, none⟩ = some b0 ∧ w1.cell? ⟨w.heap.size + 1, 1, none⟩ = some b1 ∧ w1.cell? ⟨w.heap.size + 1, 2, none⟩ = some b2 ∧ w1.cell? ⟨w.heap.size + 1, 3, none⟩ = some b3 ∧ w1.cell? ⟨w.heap.size + 1, 4, none⟩ = some b4 :=
  box10 (((Below.refl _ _).drew).trans hb)

set_option maxRecDepth 20000 in
set_option maxHeartbeats 1000000 in
theorem ic_any (ka na : Int) (fa : Nat) (sa : ByteArray) (ra : Int) (kb nb : Int) (fb : Nat) (sb : ByteArray) (rb : Int) (w : World) (hfa : fa < 18446744073709551616) (hfb : fb < 18446744073709551616) :
    Calls Try.prog 27 #[VV ka na fa sa ra, VV kb nb fb sb rb] w fun e w' => e = .returned (.int .i64 (cmpV ka na fa sa ra kb nb fb sb rb)) ∧ Below w.heap.size w w' := by
  go_enter Try.func27, Try.ntmps27
  go_wp2_with fail
  go_region_with (first | (go_at_call_of 53 ka; refine (term_any ka na fa sa ra _).mono ?_; rintro e w1 ⟨rfl, hx⟩; obtain ⟨hb, a0, a1, a2, a3, a4, b0, b1, b2, b3, b4⟩ := box10d hx; clear hx a0 a1 a2 a3 a4) | (go_at_call_of 53 kb; refine (term_any kb nb fb sb rb _).mono ?_; rintro e w2 ⟨rfl, hx⟩; replace hb := hb.trans (hx.mono hb.size); clear hx) | (go_at_call 63; refine (ct_any ka na fa sa ra kb nb fb sb rb _ hfa hfb).mono ?_; rintro e w3 ⟨rfl, rfl⟩))
  all_goals
    go_wp2_with fail
    go_ret
    exact ⟨rfl, hb⟩
end Go.Proofs.Ytkipmogmejfmcaa
