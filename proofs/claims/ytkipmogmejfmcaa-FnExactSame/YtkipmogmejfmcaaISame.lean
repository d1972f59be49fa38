/-
  OWN WORK. Same, the program's: the two terms made in an order that is left open.
-/
import Derived.Test.YtkipmogmejfmcaaSame
import Derived.Test.YtkipmogmejfmcaaICompare
namespace Go.Proofs.Ytkipmogmejfmcaa
open Go.RowKit
set_option linter.unusedVariables false

set_option maxRecDepth 20000 in
set_option maxHeartbeats 1000000 in
theorem is_any (ka na : Int) (fa : Nat) (sa : ByteArray) (ra : Int) (kb nb : Int) (fb : Nat) (sb : ByteArray) (rb : Int) (w : World) (hfa : fa < 18446744073709551616) (hfb : fb < 18446744073709551616) :
    Calls Try.prog 29 #[VV ka na fa sa ra, VV kb nb fb sb rb] w fun e w' => e = .returned (.bool (samV ka na fa sa ra kb nb fb sb rb)) ∧ Below w.heap.size w w' := by
  go_enter Try.func29, Try.ntmps29
  go_wp2_with fail
  go_region_with (first | (go_at_call_of 53 ka; refine (term_any ka na fa sa ra _).mono ?_; rintro e w1 ⟨rfl, hx⟩; obtain ⟨hb, a0, a1, a2, a3, a4, b0, b1, b2, b3, b4⟩ := box10d hx; clear hx a0 a1 a2 a3 a4) | (go_at_call_of 53 kb; refine (term_any kb nb fb sb rb _).mono ?_; rintro e w2 ⟨rfl, hx⟩; replace hb := hb.trans (hx.mono hb.size); clear hx) | (go_at_call 64; refine (st_any ka na fa sa ra kb nb fb sb rb _ hfa hfb).mono ?_; rintro e w3 ⟨rfl, rfl⟩))
  all_goals
    go_wp2_with fail
    go_ret
    exact ⟨rfl, hb⟩
end Go.Proofs.Ytkipmogmejfmcaa
