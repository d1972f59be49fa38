/-
  OWN WORK. The laws' look at sizes, copies and sameness of inputs.
-/
import Derived.Test.YtkipmogmejfmcaaYIn
namespace Go.Proofs.Ytkipmogmejfmcaa
open Go.RowKit
set_option linter.unusedVariables false

set_option maxRecDepth 20000 in
set_option maxHeartbeats 1000000 in
theorem szi_any (a1 a2 : Option Addr) (n1 n2 c1 c2 : Nat) (xs ys : List ByteArray) (t d c : Int) (l : Int) (w : World) (h1 : xs.length = n1) (p1 : SlA w 1 SC a1 xs) (o1 : ∀ v ∈ xs, v.size ≤ maxLen) (l1 : n1 ≤ maxLen) (h2 : ys.length = n2) (p2 : SlA w 1 SC a2 ys) (o2 : ∀ v ∈ ys, v.size ≤ maxLen) (l2 : n2 ≤ maxLen) (g0 : 0 ≤ l) (g1 : l ≤ 1048576) :
    Calls Try.prog 21 #[.agg (INV a1 a2 n1 n2 c1 c2 t d c), .int .i64 l] w fun e w' => (∃ r, e = .returned (.int .i64 r) ∧ (r = -1 ∨ (0 ≤ r ∧ r ≤ l - n1 - n2))) ∧ Below w.heap.size w w' := by
  have J1 : Hid (∀ W, Below w.heap.size w W → Calls Try.prog 54 #[.slice a1 n1 c1, .int .i64 l] W fun e w' => (∃ r, e = .returned (.int .i64 r) ∧ (r = -1 ∨ (0 ≤ r ∧ r ≤ l - n1))) ∧ Below W.heap.size W w') := fun W hb => szs_any a1 n1 c1 xs l W h1 (p1.later hb) o1 l1 g0 g1
  have J2 : Hid (∀ W r, Below w.heap.size w W → 0 ≤ r → r ≤ 1048576 → Calls Try.prog 54 #[.slice a2 n2 c2, .int .i64 r] W fun e w' => (∃ r', e = .returned (.int .i64 r') ∧ (r' = -1 ∨ (0 ≤ r' ∧ r' ≤ r - n2))) ∧ Below W.heap.size W w') := fun W r hb h0 h1' => szs_any a2 n2 c2 ys r W h2 (p2.later hb) o2 l2 h0 h1'
  clear h1 h2 p1 p2 o1 o2 l1 l2
  go_enter Try.func21, Try.ntmps21
  go_wp2_with fail
  refine (J1.out _ (bw1 _ _)).mono ?_
  rintro e w1 ⟨⟨r, rfl, hr⟩, hx⟩
  obtain ⟨hb, e0, e1, e2, e3, e4⟩ := box5 hx
  clear hx e0 e2 e3 e4
  rcases hr with rfl | ⟨hr0, hr1⟩
  · go_wp2_with fail
    go_ret
    exact ⟨⟨-1, rfl, .inl rfl⟩, hb⟩
  go_wp2_with fail
  refine (J2.out _ r hb hr0 (by omega)).mono ?_
  rintro e w2 ⟨⟨r', rfl, hr'⟩, hx⟩
  replace hb := hb.trans (hx.mono hb.size)
  clear hx e1
  rcases hr' with rfl | ⟨hr2, hr3⟩
  · go_wp2_with fail
    go_ret
    exact ⟨⟨-1, rfl, .inl rfl⟩, hb⟩
  · go_wp2_with fail
    go_ret
    exact ⟨⟨r', rfl, .inr ⟨by omega, by omega⟩⟩, hb⟩

set_option maxRecDepth 20000 in
set_option maxHeartbeats 4000000 in
theorem eqin_any (a1 a2 a3 a4 : Option Addr) (n1 n2 c1 c2 c3 c4 : Nat) (xs ys : List ByteArray) (t d c : Int) (w : World) (h1 : xs.length = n1) (p1 : SlA w 1 SC a1 xs) (p3 : SlA w 1 SC a3 xs) (l1 : n1 ≤ 1048576) (h2 : ys.length = n2) (p2 : SlA w 1 SC a2 ys) (p4 : SlA w 1 SC a4 ys) (l2 : n2 ≤ 1048576) :
    Calls Try.prog 25 #[.agg (INV a1 a2 n1 n2 c1 c2 t d c), .agg (INV a3 a4 n1 n2 c3 c4 t d c)] w fun e w' => e = .returned (.bool true) ∧ Below w.heap.size w w' := by
  have J1 : Hid (∀ W, Below w.heap.size w W → Calls Try.prog 58 #[.slice a1 n1 c1, .slice a3 n1 c3] W fun e w' => e = .returned (.bool true) ∧ Below W.heap.size W w') := fun W hb => eqss_any a1 a3 c1 c3 n1 xs W h1 (p1.later hb) (p3.later hb) l1
  have J2 : Hid (∀ W, Below w.heap.size w W → Calls Try.prog 58 #[.slice a2 n2 c2, .slice a4 n2 c4] W fun e w' => e = .returned (.bool true) ∧ Below W.heap.size W w') := fun W hb => eqss_any a2 a4 c2 c4 n2 ys W h2 (p2.later hb) (p4.later hb) l2
  clear h1 h2 p1 p2 p3 p4
  go_enter Try.func25, Try.ntmps25
  go_wp2_with fail
  have hb := bw2 w (.cells (INV a1 a2 n1 n2 c1 c2 t d c) 35) (.cells (INV a3 a4 n1 n2 c3 c4 t d c) 35)
  refine (J1.out _ hb).mono ?_
  rintro e w1 ⟨rfl, hx⟩
  have b0 : w1.heap[w.heap.size]? = _ := blk_later hx (blk_old (blk_new w (.cells (INV a1 a2 n1 n2 c1 c2 t d c) 35)) (.cells (INV a3 a4 n1 n2 c3 c4 t d c) 35))
  have b1 : w1.heap[w.heap.size + 1]? = some (.cells (INV a3 a4 n1 n2 c3 c4 t d c) 35) := by
    have h := blk_later hx (blk_new (w.alloc (.cells (INV a1 a2 n1 n2 c1 c2 t d c) 35)) (.cells (INV a3 a4 n1 n2 c3 c4 t d c) 35))
    simpa using h
  replace hb := hb.trans (hx.mono hb.size)
  clear hx
  have x1 : w1.cell? ⟨w.heap.size, 1, none⟩ = some (.slice a2 n2 c2) := by rw [blk_cell b0]; rfl
  have x2 : w1.cell? ⟨w.heap.size, 2, none⟩ = some (.int .i64 t) := by rw [blk_cell b0]; rfl
  have x3 : w1.cell? ⟨w.heap.size, 3, none⟩ = some (.int .i64 d) := by rw [blk_cell b0]; rfl
  have x4 : w1.cell? ⟨w.heap.size, 4, none⟩ = some (.int .i64 c) := by rw [blk_cell b0]; rfl
  have y1 : w1.cell? ⟨w.heap.size + 1, 1, none⟩ = some (.slice a4 n2 c4) := by rw [blk_cell b1]; rfl
  have y2 : w1.cell? ⟨w.heap.size + 1, 2, none⟩ = some (.int .i64 t) := by rw [blk_cell b1]; rfl
  have y3 : w1.cell? ⟨w.heap.size + 1, 3, none⟩ = some (.int .i64 d) := by rw [blk_cell b1]; rfl
  have y4 : w1.cell? ⟨w.heap.size + 1, 4, none⟩ = some (.int .i64 c) := by rw [blk_cell b1]; rfl
  clear b0 b1
  go_wp2_with fail
  refine (J2.out _ hb).mono ?_
  rintro e w2 ⟨rfl, hx⟩
  replace hb := hb.trans (hx.mono hb.size)
  replace x2 := cell_later hx x2; replace x3 := cell_later hx x3; replace x4 := cell_later hx x4
  replace y2 := cell_later hx y2; replace y3 := cell_later hx y3; replace y4 := cell_later hx y4
  clear hx x1 y1
  go_wp2_with fail
  go_ret
  exact ⟨rfl, hb⟩
end Go.Proofs.Ytkipmogmejfmcaa
