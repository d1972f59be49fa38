/-
  OWN WORK. The laws' copies of inputs.
-/
import Derived.Test.YtkipmogmejfmcaaYInB
namespace Go.Proofs.Ytkipmogmejfmcaa
open Go.RowKit
set_option linter.unusedVariables false

abbrev INZ : Obj := .cells #[.slice none 0 0, .slice none 0 0, .int .i64 0, .int .i64 0, .int .i64 0] 35
/-- A copy of an input, in memory of its own. -/
def InCp (lo : Nat) (w : World) (n1 n2 : Nat) (xs ys : List ByteArray) (t d c : Int) (v : Value) : Prop :=
  ∃ g1 g2, v = .agg (INV (some ⟨g1, 0, none⟩) (some ⟨g2, 0, none⟩) n1 n2 n1 n2 t d c) ∧ lo ≤ g1 ∧ lo ≤ g2 ∧ RowG w g1 1 9 SC xs ∧ RowG w g2 1 9 SC ys

set_option maxRecDepth 20000 in
set_option maxHeartbeats 4000000 in
theorem toin_any (a1 a2 : Option Addr) (n1 n2 c1 c2 : Nat) (xs ys : List ByteArray) (t d c : Int) (w : World) (h1 : xs.length = n1) (p1 : SlA w 1 SC a1 xs) (l1 : n1 ≤ 1048576) (h2 : ys.length = n2) (p2 : SlA w 1 SC a2 ys) (l2 : n2 ≤ 1048576) :
    Calls Try.prog 23 #[.agg (INV a1 a2 n1 n2 c1 c2 t d c)] w fun e w' => (∃ v, e = .returned v ∧ InCp w.heap.size w' n1 n2 xs ys t d c v) ∧ Below w.heap.size w w' := by
  have P1 : Hid (SlA w 1 SC a1 xs) := p1
  have P2 : Hid (SlA w 1 SC a2 ys) := p2
  have L1 : Hid (xs.length = n1) := h1
  have L2 : Hid (ys.length = n2) := h2
  clear p1 p2 h1 h2
  go_enter Try.func23, Try.ntmps23
  go_wp2_with fail
  have hB := bw3 w (.cells (INV a1 a2 n1 n2 c1 c2 t d c) 32) INZ INZ
  have B0 : Hid _ := blk_old (blk_old (blk_new w (.cells (INV a1 a2 n1 n2 c1 c2 t d c) 32)) INZ) INZ
  have B1 : Hid ((((w.alloc (.cells (INV a1 a2 n1 n2 c1 c2 t d c) 32)).alloc INZ).alloc INZ).heap[w.heap.size + 1]? = some INZ) := by
    have h := blk_old (blk_new (w.alloc (.cells (INV a1 a2 n1 n2 c1 c2 t d c) 32)) INZ) INZ
    rw [show (w.alloc (.cells (INV a1 a2 n1 n2 c1 c2 t d c) 32)).heap.size = w.heap.size + 1 by simp] at h
    exact h
  have B2 : Hid ((((w.alloc (.cells (INV a1 a2 n1 n2 c1 c2 t d c) 32)).alloc INZ).alloc INZ).heap[w.heap.size + 1 + 1]? = some INZ) := by
    have h := blk_new ((w.alloc (.cells (INV a1 a2 n1 n2 c1 c2 t d c) 32)).alloc INZ) INZ
    rw [show ((w.alloc (.cells (INV a1 a2 n1 n2 c1 c2 t d c) 32)).alloc INZ).heap.size = w.heap.size + 1 + 1 by simp] at h
    exact h
  obtain ⟨W0, hW0⟩ : ∃ W, W = (((w.alloc (.cells (INV a1 a2 n1 n2 c1 c2 t d c) 32)).alloc INZ).alloc INZ) := ⟨_, rfl⟩
  rw [← hW0] at hB B0 B1 B2 ⊢
  have hsz0 := blk_lt B2.out
  clear hW0
  obtain ⟨gu, hgu⟩ : ∃ g, g = W0.heap.size := ⟨_, rfl⟩
  refine (toss_any _ _ _ xs _ L1.out (P1.out.later hB) l1).mono ?_
  rw [← hgu]
  rintro e w1 ⟨rfl, hx, hR⟩
  rw [hgu] at hx
  have R0 : Hid (RowG w1 gu 1 9 SC xs) := hR
  have hg0 : w.heap.size + 1 + 1 < gu := by omega
  replace hB := hB.trans (hx.mono hB.size)
  replace B0 : Hid _ := blk_later hx B0.out
  replace B1 : Hid _ := blk_later hx B1.out
  replace B2 : Hid _ := blk_later hx B2.out
  clear hx hR hgu hsz0
  have e5 : w1.cell? ⟨w.heap.size + 1 + 1, 0, none⟩ = some (.slice none 0 0) := by rw [blk_cell B2.out]; rfl
  have z := blk_frozen B2.out
  have p6 : w1.cell? ⟨w.heap.size, 1, none⟩ = some (.slice a2 n2 c2) := by rw [blk_cell B0.out]; rfl
  obtain ⟨W1, hW1⟩ : ∃ W, W = (w1.setCell ⟨w.heap.size + 1 + 1, 0, none⟩ (.slice (some ⟨gu, 0, none⟩) n1 n1)) := ⟨_, rfl⟩
  go_wp2_with fail
  rw [← hW1]
  replace hB : Below w.heap.size w W1 := by rw [hW1]; exact hB.setCell (p := ⟨w.heap.size + 1 + 1, 0, none⟩) (by simp; omega) _
  replace B0 : Hid (W1.heap[w.heap.size]? = some (.cells (INV a1 a2 n1 n2 c1 c2 t d c) 32)) := by rw [hW1]; exact blk_other B0.out (by omega) _ _
  replace B1 : Hid (W1.heap[w.heap.size + 1]? = some INZ) := by rw [hW1]; exact blk_other B1.out (by omega) _ _
  replace B2 : Hid (W1.heap[w.heap.size + 1 + 1]? = some (.cells #[.slice (some ⟨gu, 0, none⟩) n1 n1, .slice none 0 0, .int .i64 0, .int .i64 0, .int .i64 0] 35)) := by rw [hW1]; exact blk_set B2.out 0 _
  replace R0 : Hid (RowG W1 gu 1 9 SC xs) := by rw [hW1]; exact RowG.set R0.out (by omega) _ _
  clear z e5 p6
  have hsz1 := blk_lt B2.out
  clear hW1
  obtain ⟨gc, hgc⟩ : ∃ g, g = W1.heap.size := ⟨_, rfl⟩
  refine (toss_any _ _ _ ys _ L2.out (P2.out.later hB) l2).mono ?_
  rw [← hgc]
  rintro e w2 ⟨rfl, hx, hR⟩
  rw [hgc] at hx
  have R1 : Hid (RowG w2 gc 1 9 SC ys) := hR
  replace R0 : Hid (RowG w2 gu 1 9 SC xs) := RowG.later hx R0.out
  have hg1 : w.heap.size + 1 + 1 < gc := by omega
  replace hB := hB.trans (hx.mono hB.size)
  replace B0 : Hid _ := blk_later hx B0.out
  replace B1 : Hid _ := blk_later hx B1.out
  replace B2 : Hid _ := blk_later hx B2.out
  clear hx hR hgc hsz1
  have p2 : w2.cell? ⟨w.heap.size, 2, none⟩ = some (.int .i64 t) := by rw [blk_cell B0.out]; rfl
  have p3 : w2.cell? ⟨w.heap.size, 3, none⟩ = some (.int .i64 d) := by rw [blk_cell B0.out]; rfl
  have p4 : w2.cell? ⟨w.heap.size, 4, none⟩ = some (.int .i64 c) := by rw [blk_cell B0.out]; rfl
  have o0 : w2.cell? ⟨w.heap.size + 1 + 1, 0, none⟩ = some (.slice (some ⟨gu, 0, none⟩) n1 n1) := by rw [blk_cell B2.out]; rfl
  have o1 : w2.cell? ⟨w.heap.size + 1 + 1, 1, none⟩ = some (.slice none 0 0) := by rw [blk_cell B2.out]; rfl
  have o2 : w2.cell? ⟨w.heap.size + 1 + 1, 2, none⟩ = some (.int .i64 0) := by rw [blk_cell B2.out]; rfl
  have o3 : w2.cell? ⟨w.heap.size + 1 + 1, 3, none⟩ = some (.int .i64 0) := by rw [blk_cell B2.out]; rfl
  have o4 : w2.cell? ⟨w.heap.size + 1 + 1, 4, none⟩ = some (.int .i64 0) := by rw [blk_cell B2.out]; rfl
  have r0 : w2.cell? ⟨w.heap.size + 1, 0, none⟩ = some (.slice none 0 0) := by rw [blk_cell B1.out]; rfl
  have r1 : w2.cell? ⟨w.heap.size + 1, 1, none⟩ = some (.slice none 0 0) := by rw [blk_cell B1.out]; rfl
  have r2 : w2.cell? ⟨w.heap.size + 1, 2, none⟩ = some (.int .i64 0) := by rw [blk_cell B1.out]; rfl
  have r3 : w2.cell? ⟨w.heap.size + 1, 3, none⟩ = some (.int .i64 0) := by rw [blk_cell B1.out]; rfl
  have r4 : w2.cell? ⟨w.heap.size + 1, 4, none⟩ = some (.int .i64 0) := by rw [blk_cell B1.out]; rfl
  have z1 := blk_frozen B1.out
  have z2 := blk_frozen B2.out
  clear B0 B1 B2
  have HG : Hid (w.heap.size + 1 + 1 < gu ∧ w.heap.size + 1 + 1 < gc) := ⟨hg0, hg1⟩
  clear hg0 hg1
  go_wp2_with fail
  refine bodyPost_ret (v := .agg (INV (some ⟨gu, 0, none⟩) (some ⟨gc, 0, none⟩) n1 n2 n1 n2 t d c)) (by simp [results, Try.results23, go_sem, r0, r1, r2, r3, r4]) rfl ⟨⟨_, rfl, gu, gc, rfl, ?_, ?_, ?_, ?_⟩, ?_⟩
  · have := HG.out.1; omega
  · have := HG.out.2; omega
  · have := HG.out.1
    iterate 9 refine RowG.set ?_ (by omega) _ _
    exact R0.out
  · have := HG.out.2
    iterate 9 refine RowG.set ?_ (by omega) _ _
    exact R1.out
  · iterate 5 refine Below.setCell ?_ (p := ⟨w.heap.size + 1, _, none⟩) (by simp) _
    iterate 4 refine Below.setCell ?_ (p := ⟨w.heap.size + 1 + 1, _, none⟩) (by simp; omega) _
    exact hB

end Go.Proofs.Ytkipmogmejfmcaa
