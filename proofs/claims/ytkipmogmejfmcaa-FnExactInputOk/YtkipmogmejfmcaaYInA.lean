/-
  OWN WORK. InputOk of the program.
-/
import Derived.Test.YtkipmogmejfmcaaYIn
namespace Go.Proofs.Ytkipmogmejfmcaa
open Go.RowKit
set_option linter.unusedVariables false

set_option maxRecDepth 20000 in
set_option maxHeartbeats 4000000 in
theorem iin_any (a1 a2 : Option Addr) (n1 n2 c1 c2 : Nat) (xs ys : List ByteArray) (t d c : Int) (w : World) (h1 : xs.length = n1) (p1 : SlA w 1 SC a1 xs) (o1 : ∀ v ∈ xs, v.size ≤ maxLen) (l1 : n1 ≤ 1048576) (h2 : ys.length = n2) (p2 : SlA w 1 SC a2 ys) (o2 : ∀ v ∈ ys, v.size ≤ maxLen) (l2 : n2 ≤ 1048576) :
    Calls Try.prog 24 #[.agg (INV a1 a2 n1 n2 c1 c2 t d c)] w fun e w' => e = .returned (.bool (okV xs ys t d c)) ∧ Below w.heap.size w w' := by
  have J1 : Hid (∀ W, Below w.heap.size w W → Calls Try.prog 56 #[.slice a1 n1 c1] W fun e w' => e = .returned (.bool (txV xs)) ∧ Below W.heap.size W w') := fun W hb => itx_any a1 n1 c1 xs W h1 (p1.later hb) o1 l1
  have J2 : Hid (∀ W, Below w.heap.size w W → Calls Try.prog 56 #[.slice a2 n2 c2] W fun e w' => e = .returned (.bool (txV ys)) ∧ Below W.heap.size W w') := fun W hb => itx_any a2 n2 c2 ys W h2 (p2.later hb) o2 l2
  obtain ⟨R, hR⟩ : ∃ R, R = okV xs ys t d c := ⟨_, rfl⟩
  have HR : Hid (R = okV xs ys t d c) := hR
  rw [← hR]
  clear hR h1 h2 p1 p2 o1 o2
  go_enter Try.func24, Try.ntmps24
  go_wp2_with fail
  refine (J1.out _ (bw1 _ _)).mono ?_
  rintro e w1 ⟨rfl, hx⟩
  obtain ⟨hb, e0, e1, e2, e3, e4⟩ := box5 hx
  clear hx
  cases T1 : txV xs
  · go_wp2_with fail
    go_ret
    exact ⟨by rw [HR.out]; unfold okV; rw [T1]; rfl, hb⟩
  go_wp2_with fail
  refine (J2.out _ hb).mono ?_
  rintro e w2 ⟨rfl, hx⟩
  replace hb := hb.trans (hx.mono hb.size)
  replace e2 := cell_later hx e2; replace e3 := cell_later hx e3; replace e4 := cell_later hx e4
  clear hx e0 e1
  cases T2 : txV ys
  · go_wp2_with fail
    go_ret
    exact ⟨by rw [HR.out]; unfold okV; rw [T1, T2]; rfl, hb⟩
  obtain ⟨A1, hA1⟩ : ∃ b, b = (decide (0 ≤ t) && decide (t ≤ 5000)) := ⟨_, rfl⟩
  obtain ⟨A2, hA2⟩ : ∃ b, b = (decide (1 ≤ d) && decide (d ≤ 60)) := ⟨_, rfl⟩
  obtain ⟨A3, hA3⟩ : ∃ b, b = (decide (0 ≤ c) && decide (c ≤ 20000)) := ⟨_, rfl⟩
  replace HR : Hid (R = (A1 && A2 && A3)) := by
    show R = _
    rw [HR.out, hA1, hA2, hA3]; unfold okV; rw [T1, T2]; simp only [Bool.true_and, Bool.and_assoc]
  have K1 : Hid (∀ W, Calls Try.prog 57 #[.int .i64 t, .int .i64 0, .int .i64 5000] W fun e w' => e = .returned (.bool A1) ∧ Below W.heap.size W w') := fun W => by rw [hA1]; exact within_any t 0 5000 W
  have K2 : Hid (∀ W, Calls Try.prog 57 #[.int .i64 d, .int .i64 1, .int .i64 60] W fun e w' => e = .returned (.bool A2) ∧ Below W.heap.size W w') := fun W => by rw [hA2]; exact within_any d 1 60 W
  have K3 : Hid (∀ W, Calls Try.prog 57 #[.int .i64 c, .int .i64 0, .int .i64 20000] W fun e w' => e = .returned (.bool A3) ∧ Below W.heap.size W w') := fun W => by rw [hA3]; exact within_any c 0 20000 W
  clear T1 T2 J1 J2 hA1 hA2 hA3
  go_wp2_with fail
  refine (K1.out _).mono ?_
  rintro e w3 ⟨rfl, hx⟩
  replace hb := hb.trans (hx.mono hb.size)
  replace e3 := cell_later hx e3; replace e4 := cell_later hx e4
  clear hx e2 K1
  cases A1
  · go_wp2_with fail
    go_ret
    exact ⟨by rw [HR.out]; rfl, hb⟩
  go_wp2_with fail
  refine (K2.out _).mono ?_
  rintro e w4 ⟨rfl, hx⟩
  replace hb := hb.trans (hx.mono hb.size)
  replace e4 := cell_later hx e4
  clear hx e3 K2
  cases A2
  · go_wp2_with fail
    go_ret
    exact ⟨by rw [HR.out]; rfl, hb⟩
  go_wp2_with fail
  refine (K3.out _).mono ?_
  rintro e w5 ⟨rfl, hx⟩
  replace hb := hb.trans (hx.mono hb.size)
  clear hx e4 K3
  go_wp2_with fail
  go_ret
  exact ⟨by rw [HR.out]; simp, hb⟩
end Go.Proofs.Ytkipmogmejfmcaa
