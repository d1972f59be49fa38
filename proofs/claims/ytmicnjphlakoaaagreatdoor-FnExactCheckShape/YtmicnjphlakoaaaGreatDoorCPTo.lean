/-
  OWN WORK. Codes: the laws' copies of protos and codes.
-/
import Derived.Test.YtmicnjphlakoaaaGreatDoorCPSz
namespace Go.Proofs.YtmicnjphlakoaaaGreatDoor
open Go.RowKit
attribute [local go_sem] run_store_float
set_option linter.unusedVariables false
set_option linter.unusedSimpArgs false

/-- A proto whose lists are blocks of their own, none below a bound. -/
structure FC.own (lo : Nat) (w : World) (x : FC) : Prop where
  u : ∃ g, lo ≤ g ∧ x.au = some ⟨g, 0, none⟩ ∧ RowG w g 2 68 UD.cells x.d.ups
  c : ∃ g, lo ≤ g ∧ x.ac = some ⟨g, 0, none⟩ ∧ RowG w g 5 64 VD.cells x.d.consts
  i : ∃ g, lo ≤ g ∧ x.ai = some ⟨g, 0, none⟩ ∧ RowG w g 5 45 ID.cells x.d.ins
  n : ∃ g, lo ≤ g ∧ x.an = some ⟨g, 0, none⟩ ∧ RowG w g 4 85 ND.cells x.d.named
theorem FC.own.later {lo : Nat} {w wx : World} {x : FC} (hb : Below w.heap.size w wx) (h : x.own lo w) : x.own lo wx :=
  ⟨h.u.imp fun g k => ⟨k.1, k.2.1, k.2.2.later hb⟩, h.c.imp fun g k => ⟨k.1, k.2.1, k.2.2.later hb⟩, h.i.imp fun g k => ⟨k.1, k.2.1, k.2.2.later hb⟩, h.n.imp fun g k => ⟨k.1, k.2.1, k.2.2.later hb⟩⟩
theorem FC.own.set {lo q : Nat} {w : World} {x : FC} (h : x.own lo w) (hq : q < lo) (j : Nat) (v : Value) : x.own lo (w.setCell ⟨q, j, none⟩ v) :=
  ⟨h.u.imp fun g k => ⟨k.1, k.2.1, k.2.2.set (by omega) j v⟩, h.c.imp fun g k => ⟨k.1, k.2.1, k.2.2.set (by omega) j v⟩, h.i.imp fun g k => ⟨k.1, k.2.1, k.2.2.set (by omega) j v⟩, h.n.imp fun g k => ⟨k.1, k.2.1, k.2.2.set (by omega) j v⟩⟩
theorem FC.own.lie {lo : Nat} {w : World} {x : FC} (h : x.own lo w) : x.lie w := by
  obtain ⟨⟨g1, _, e1, r1⟩, ⟨g2, _, e2, r2⟩, ⟨g3, _, e3, r3⟩, ⟨g4, _, e4, r4⟩⟩ := h
  exact ⟨e1 ▸ r1.at, e2 ▸ r2.at, e3 ▸ r3.at, e4 ▸ r4.at⟩
theorem FC.own.mono {lo lo' : Nat} {w : World} {x : FC} (h : x.own lo w) (hl : lo' ≤ lo) : x.own lo' w :=
  ⟨h.u.imp fun g k => ⟨by omega, k.2⟩, h.c.imp fun g k => ⟨by omega, k.2⟩, h.i.imp fun g k => ⟨by omega, k.2⟩, h.n.imp fun g k => ⟨by omega, k.2⟩⟩

set_option maxRecDepth 20000 in
set_option maxHeartbeats 8000000 in
theorem top_any (f : FC) (w : World) (hl : f.lie w) (ok : f.d.ok) :
    Calls Tryz.prog 24 #[PV f] w fun e w' => (∃ y : FC, e = .returned (PV y) ∧ y.d = f.d ∧ y.own w.heap.size w') ∧ Below w.heap.size w w' := by
  have HLI : Hid (f.lie w) := hl
  obtain ⟨on, lu, lc, lli, ln, _, _⟩ := ok
  clear hl on
  go_enter Tryz.func24, Tryz.ntmps24
  go_wp2_with fail
  have hB := bw3 w (LO f) (.cells #[.string ⟨#[]⟩, .int .i64 0, .int .i64 0, .bool false, .int .i64 0, .slice none 0 0, .slice none 0 0, .slice none 0 0, .slice none 0 0] 43) (.cells #[.string f.d.name, .int .i64 f.d.line, .int .i64 f.d.params, .bool f.d.rest, .int .i64 f.d.regs, .slice none 0 0, .slice none 0 0, .slice none 0 0, .slice none 0 0] 43)
  have B0 : Hid _ := blk_old (blk_old (blk_new w (LO f)) (.cells #[.string ⟨#[]⟩, .int .i64 0, .int .i64 0, .bool false, .int .i64 0, .slice none 0 0, .slice none 0 0, .slice none 0 0, .slice none 0 0] 43)) (.cells #[.string f.d.name, .int .i64 f.d.line, .int .i64 f.d.params, .bool f.d.rest, .int .i64 f.d.regs, .slice none 0 0, .slice none 0 0, .slice none 0 0, .slice none 0 0] 43)
  have B1 : Hid ((((w.alloc (LO f)).alloc (.cells #[.string ⟨#[]⟩, .int .i64 0, .int .i64 0, .bool false, .int .i64 0, .slice none 0 0, .slice none 0 0, .slice none 0 0, .slice none 0 0] 43)).alloc (.cells #[.string f.d.name, .int .i64 f.d.line, .int .i64 f.d.params, .bool f.d.rest, .int .i64 f.d.regs, .slice none 0 0, .slice none 0 0, .slice none 0 0, .slice none 0 0] 43)).heap[w.heap.size + 1]? = some (.cells #[.string ⟨#[]⟩, .int .i64 0, .int .i64 0, .bool false, .int .i64 0, .slice none 0 0, .slice none 0 0, .slice none 0 0, .slice none 0 0] 43)) := blk_old (blk_newn (by simp) _) _
  have B2 : Hid ((((w.alloc (LO f)).alloc (.cells #[.string ⟨#[]⟩, .int .i64 0, .int .i64 0, .bool false, .int .i64 0, .slice none 0 0, .slice none 0 0, .slice none 0 0, .slice none 0 0] 43)).alloc (.cells #[.string f.d.name, .int .i64 f.d.line, .int .i64 f.d.params, .bool f.d.rest, .int .i64 f.d.regs, .slice none 0 0, .slice none 0 0, .slice none 0 0, .slice none 0 0] 43)).heap[w.heap.size + 1 + 1]? = some (.cells #[.string f.d.name, .int .i64 f.d.line, .int .i64 f.d.params, .bool f.d.rest, .int .i64 f.d.regs, .slice none 0 0, .slice none 0 0, .slice none 0 0, .slice none 0 0] 43)) := blk_newn (by simp) _
  obtain ⟨W0, hW0⟩ : ∃ W, W = (((w.alloc (LO f)).alloc (.cells #[.string ⟨#[]⟩, .int .i64 0, .int .i64 0, .bool false, .int .i64 0, .slice none 0 0, .slice none 0 0, .slice none 0 0, .slice none 0 0] 43)).alloc (.cells #[.string f.d.name, .int .i64 f.d.line, .int .i64 f.d.params, .bool f.d.rest, .int .i64 f.d.regs, .slice none 0 0, .slice none 0 0, .slice none 0 0, .slice none 0 0] 43)) := ⟨_, rfl⟩
  rw [← hW0] at hB B0 B1 B2 ⊢
  have hsz0 := blk_lt B2.out
  clear hW0
  obtain ⟨gu, hgu⟩ : ∃ g, g = W0.heap.size := ⟨_, rfl⟩
  refine (tous_any _ _ _ f.d.ups _ rfl (HLI.out.later hB).u lu).mono ?_
  rw [← hgu]
  rintro e w1 ⟨rfl, hx, hR⟩
  rw [hgu] at hx
  have R0 : Hid (RowG w1 gu 2 68 UD.cells f.d.ups) := hR
  have hg0 : w.heap.size + 1 + 1 < gu := by omega
  replace hB := hB.trans (hx.mono hB.size)
  replace B0 : Hid _ := blk_later hx B0.out
  replace B1 : Hid _ := blk_later hx B1.out
  replace B2 : Hid _ := blk_later hx B2.out
  clear hx hR hgu hsz0
  have e5 : w1.cell? ⟨w.heap.size + 1 + 1, 5, none⟩ = some (.slice none 0 0) := by rw [blk_cell B2.out]; rfl
  have z := blk_frozen B2.out
  have p6 : w1.cell? ⟨w.heap.size, 6, none⟩ = some (.slice f.ac f.d.consts.length f.cc) := by rw [blk_cell B0.out]; rfl
  obtain ⟨W1, hW1⟩ : ∃ W, W = (w1.setCell ⟨w.heap.size + 1 + 1, 5, none⟩ (.slice (some ⟨gu, 0, none⟩) f.d.ups.length f.d.ups.length)) := ⟨_, rfl⟩
  go_wp2_with fail
  rw [← hW1]
  replace hB : Below w.heap.size w W1 := by rw [hW1]; exact hB.setCell (p := ⟨w.heap.size + 1 + 1, 5, none⟩) (by simp; omega) _
  replace B0 : Hid (W1.heap[w.heap.size]? = some (LO f)) := by rw [hW1]; exact blk_other B0.out (by omega) _ _
  replace B1 : Hid (W1.heap[w.heap.size + 1]? = some (.cells #[.string ⟨#[]⟩, .int .i64 0, .int .i64 0, .bool false, .int .i64 0, .slice none 0 0, .slice none 0 0, .slice none 0 0, .slice none 0 0] 43)) := by rw [hW1]; exact blk_other B1.out (by omega) _ _
  replace B2 : Hid (W1.heap[w.heap.size + 1 + 1]? = some (.cells #[.string f.d.name, .int .i64 f.d.line, .int .i64 f.d.params, .bool f.d.rest, .int .i64 f.d.regs, .slice (some ⟨gu, 0, none⟩) f.d.ups.length f.d.ups.length, .slice none 0 0, .slice none 0 0, .slice none 0 0] 43)) := by rw [hW1]; exact blk_set B2.out 5 (.slice (some ⟨gu, 0, none⟩) f.d.ups.length f.d.ups.length)
  replace R0 : Hid (RowG W1 gu 2 68 UD.cells f.d.ups) := by rw [hW1]; exact RowG.set R0.out (by omega) _ _
  clear z e5 p6
  have hsz1 := blk_lt B2.out
  clear hW1
  obtain ⟨gc, hgc⟩ : ∃ g, g = W1.heap.size := ⟨_, rfl⟩
  refine (tovs_any _ _ _ f.d.consts _ rfl (HLI.out.later hB).c lc).mono ?_
  rw [← hgc]
  rintro e w2 ⟨rfl, hx, hR⟩
  rw [hgc] at hx
  have R1 : Hid (RowG w2 gc 5 64 VD.cells f.d.consts) := hR
  replace R0 : Hid (RowG w2 gu 2 68 UD.cells f.d.ups) := RowG.later hx R0.out
  have hg1 : w.heap.size + 1 + 1 < gc := by omega
  replace hB := hB.trans (hx.mono hB.size)
  replace B0 : Hid _ := blk_later hx B0.out
  replace B1 : Hid _ := blk_later hx B1.out
  replace B2 : Hid _ := blk_later hx B2.out
  clear hx hR hgc hsz1
  have e6 : w2.cell? ⟨w.heap.size + 1 + 1, 6, none⟩ = some (.slice none 0 0) := by rw [blk_cell B2.out]; rfl
  have z := blk_frozen B2.out
  have p7 : w2.cell? ⟨w.heap.size, 7, none⟩ = some (.slice f.ai f.d.ins.length f.ci) := by rw [blk_cell B0.out]; rfl
  obtain ⟨W2, hW2⟩ : ∃ W, W = (w2.setCell ⟨w.heap.size + 1 + 1, 6, none⟩ (.slice (some ⟨gc, 0, none⟩) f.d.consts.length f.d.consts.length)) := ⟨_, rfl⟩
  go_wp2_with fail
  rw [← hW2]
  replace hB : Below w.heap.size w W2 := by rw [hW2]; exact hB.setCell (p := ⟨w.heap.size + 1 + 1, 6, none⟩) (by simp; omega) _
  replace B0 : Hid (W2.heap[w.heap.size]? = some (LO f)) := by rw [hW2]; exact blk_other B0.out (by omega) _ _
  replace B1 : Hid (W2.heap[w.heap.size + 1]? = some (.cells #[.string ⟨#[]⟩, .int .i64 0, .int .i64 0, .bool false, .int .i64 0, .slice none 0 0, .slice none 0 0, .slice none 0 0, .slice none 0 0] 43)) := by rw [hW2]; exact blk_other B1.out (by omega) _ _
  replace B2 : Hid (W2.heap[w.heap.size + 1 + 1]? = some (.cells #[.string f.d.name, .int .i64 f.d.line, .int .i64 f.d.params, .bool f.d.rest, .int .i64 f.d.regs, .slice (some ⟨gu, 0, none⟩) f.d.ups.length f.d.ups.length, .slice (some ⟨gc, 0, none⟩) f.d.consts.length f.d.consts.length, .slice none 0 0, .slice none 0 0] 43)) := by rw [hW2]; exact blk_set B2.out 6 (.slice (some ⟨gc, 0, none⟩) f.d.consts.length f.d.consts.length)
  replace R0 : Hid (RowG W2 gu 2 68 UD.cells f.d.ups) := by rw [hW2]; exact RowG.set R0.out (by omega) _ _
  replace R1 : Hid (RowG W2 gc 5 64 VD.cells f.d.consts) := by rw [hW2]; exact RowG.set R1.out (by omega) _ _
  clear z e6 p7
  have hsz2 := blk_lt B2.out
  clear hW2
  obtain ⟨gi, hgi⟩ : ∃ g, g = W2.heap.size := ⟨_, rfl⟩
  refine (tois_any _ _ _ f.d.ins _ rfl (HLI.out.later hB).i lli).mono ?_
  rw [← hgi]
  rintro e w3 ⟨rfl, hx, hR⟩
  rw [hgi] at hx
  have R2 : Hid (RowG w3 gi 5 45 ID.cells f.d.ins) := hR
  replace R0 : Hid (RowG w3 gu 2 68 UD.cells f.d.ups) := RowG.later hx R0.out
  replace R1 : Hid (RowG w3 gc 5 64 VD.cells f.d.consts) := RowG.later hx R1.out
  have hg2 : w.heap.size + 1 + 1 < gi := by omega
  replace hB := hB.trans (hx.mono hB.size)
  replace B0 : Hid _ := blk_later hx B0.out
  replace B1 : Hid _ := blk_later hx B1.out
  replace B2 : Hid _ := blk_later hx B2.out
  clear hx hR hgi hsz2
  have e7 : w3.cell? ⟨w.heap.size + 1 + 1, 7, none⟩ = some (.slice none 0 0) := by rw [blk_cell B2.out]; rfl
  have z := blk_frozen B2.out
  have p8 : w3.cell? ⟨w.heap.size, 8, none⟩ = some (.slice f.an f.d.named.length f.cn) := by rw [blk_cell B0.out]; rfl
  obtain ⟨W3, hW3⟩ : ∃ W, W = (w3.setCell ⟨w.heap.size + 1 + 1, 7, none⟩ (.slice (some ⟨gi, 0, none⟩) f.d.ins.length f.d.ins.length)) := ⟨_, rfl⟩
  go_wp2_with fail
  rw [← hW3]
  replace hB : Below w.heap.size w W3 := by rw [hW3]; exact hB.setCell (p := ⟨w.heap.size + 1 + 1, 7, none⟩) (by simp; omega) _
  replace B0 : Hid (W3.heap[w.heap.size]? = some (LO f)) := by rw [hW3]; exact blk_other B0.out (by omega) _ _
  replace B1 : Hid (W3.heap[w.heap.size + 1]? = some (.cells #[.string ⟨#[]⟩, .int .i64 0, .int .i64 0, .bool false, .int .i64 0, .slice none 0 0, .slice none 0 0, .slice none 0 0, .slice none 0 0] 43)) := by rw [hW3]; exact blk_other B1.out (by omega) _ _
  replace B2 : Hid (W3.heap[w.heap.size + 1 + 1]? = some (.cells #[.string f.d.name, .int .i64 f.d.line, .int .i64 f.d.params, .bool f.d.rest, .int .i64 f.d.regs, .slice (some ⟨gu, 0, none⟩) f.d.ups.length f.d.ups.length, .slice (some ⟨gc, 0, none⟩) f.d.consts.length f.d.consts.length, .slice (some ⟨gi, 0, none⟩) f.d.ins.length f.d.ins.length, .slice none 0 0] 43)) := by rw [hW3]; exact blk_set B2.out 7 (.slice (some ⟨gi, 0, none⟩) f.d.ins.length f.d.ins.length)
  replace R0 : Hid (RowG W3 gu 2 68 UD.cells f.d.ups) := by rw [hW3]; exact RowG.set R0.out (by omega) _ _
  replace R1 : Hid (RowG W3 gc 5 64 VD.cells f.d.consts) := by rw [hW3]; exact RowG.set R1.out (by omega) _ _
  replace R2 : Hid (RowG W3 gi 5 45 ID.cells f.d.ins) := by rw [hW3]; exact RowG.set R2.out (by omega) _ _
  clear z e7 p8
  have hsz3 := blk_lt B2.out
  clear hW3
  obtain ⟨gn, hgn⟩ : ∃ g, g = W3.heap.size := ⟨_, rfl⟩
  refine (tons_any _ _ _ f.d.named _ rfl (HLI.out.later hB).n ln).mono ?_
  rw [← hgn]
  rintro e w4 ⟨rfl, hx, hR⟩
  rw [hgn] at hx
  have R3 : Hid (RowG w4 gn 4 85 ND.cells f.d.named) := hR
  replace R0 : Hid (RowG w4 gu 2 68 UD.cells f.d.ups) := RowG.later hx R0.out
  replace R1 : Hid (RowG w4 gc 5 64 VD.cells f.d.consts) := RowG.later hx R1.out
  replace R2 : Hid (RowG w4 gi 5 45 ID.cells f.d.ins) := RowG.later hx R2.out
  have hg3 : w.heap.size + 1 + 1 < gn := by omega
  replace hB := hB.trans (hx.mono hB.size)
  replace B0 : Hid _ := blk_later hx B0.out
  replace B1 : Hid _ := blk_later hx B1.out
  replace B2 : Hid _ := blk_later hx B2.out
  clear hx hR hgn hsz3
  have e8 : w4.cell? ⟨w.heap.size + 1 + 1, 8, none⟩ = some (.slice none 0 0) := by rw [blk_cell B2.out]; rfl
  have z := blk_frozen B2.out
  have o0 : w4.cell? ⟨w.heap.size + 1 + 1, 0, none⟩ = some (.string f.d.name) := by rw [blk_cell B2.out]; rfl
  have o1 : w4.cell? ⟨w.heap.size + 1 + 1, 1, none⟩ = some (.int .i64 f.d.line) := by rw [blk_cell B2.out]; rfl
  have o2 : w4.cell? ⟨w.heap.size + 1 + 1, 2, none⟩ = some (.int .i64 f.d.params) := by rw [blk_cell B2.out]; rfl
  have o3 : w4.cell? ⟨w.heap.size + 1 + 1, 3, none⟩ = some (.bool f.d.rest) := by rw [blk_cell B2.out]; rfl
  have o4 : w4.cell? ⟨w.heap.size + 1 + 1, 4, none⟩ = some (.int .i64 f.d.regs) := by rw [blk_cell B2.out]; rfl
  have o5 : w4.cell? ⟨w.heap.size + 1 + 1, 5, none⟩ = some (.slice (some ⟨gu, 0, none⟩) f.d.ups.length f.d.ups.length) := by rw [blk_cell B2.out]; rfl
  have o6 : w4.cell? ⟨w.heap.size + 1 + 1, 6, none⟩ = some (.slice (some ⟨gc, 0, none⟩) f.d.consts.length f.d.consts.length) := by rw [blk_cell B2.out]; rfl
  have o7 : w4.cell? ⟨w.heap.size + 1 + 1, 7, none⟩ = some (.slice (some ⟨gi, 0, none⟩) f.d.ins.length f.d.ins.length) := by rw [blk_cell B2.out]; rfl
  have r0 : w4.cell? ⟨w.heap.size + 1, 0, none⟩ = some (.string ⟨#[]⟩) := by rw [blk_cell B1.out]; rfl
  have r1 : w4.cell? ⟨w.heap.size + 1, 1, none⟩ = some (.int .i64 0) := by rw [blk_cell B1.out]; rfl
  have r2 : w4.cell? ⟨w.heap.size + 1, 2, none⟩ = some (.int .i64 0) := by rw [blk_cell B1.out]; rfl
  have r3 : w4.cell? ⟨w.heap.size + 1, 3, none⟩ = some (.bool false) := by rw [blk_cell B1.out]; rfl
  have r4 : w4.cell? ⟨w.heap.size + 1, 4, none⟩ = some (.int .i64 0) := by rw [blk_cell B1.out]; rfl
  have r5 : w4.cell? ⟨w.heap.size + 1, 5, none⟩ = some (.slice none 0 0) := by rw [blk_cell B1.out]; rfl
  have r6 : w4.cell? ⟨w.heap.size + 1, 6, none⟩ = some (.slice none 0 0) := by rw [blk_cell B1.out]; rfl
  have r7 : w4.cell? ⟨w.heap.size + 1, 7, none⟩ = some (.slice none 0 0) := by rw [blk_cell B1.out]; rfl
  have r8 : w4.cell? ⟨w.heap.size + 1, 8, none⟩ = some (.slice none 0 0) := by rw [blk_cell B1.out]; rfl
  have z1 := blk_frozen B1.out
  go_wp2_with fail
  refine bodyPost_ret (v := .agg #[.string f.d.name, .int .i64 f.d.line, .int .i64 f.d.params, .bool f.d.rest, .int .i64 f.d.regs, .slice (some ⟨gu, 0, none⟩) f.d.ups.length f.d.ups.length, .slice (some ⟨gc, 0, none⟩) f.d.consts.length f.d.consts.length, .slice (some ⟨gi, 0, none⟩) f.d.ins.length f.d.ins.length, .slice (some ⟨gn, 0, none⟩) f.d.named.length f.d.named.length]) (by simp [results, Tryz.results24, go_sem, r0, r1, r2, r3, r4, r5, r6, r7, r8]) rfl ⟨⟨⟨f.d, some ⟨gu, 0, none⟩, f.d.ups.length, some ⟨gc, 0, none⟩, f.d.consts.length, some ⟨gi, 0, none⟩, f.d.ins.length, some ⟨gn, 0, none⟩, f.d.named.length⟩, rfl, rfl, ?_⟩, ?_⟩
  · refine ⟨⟨gu, by omega, rfl, ?_⟩, ⟨gc, by omega, rfl, ?_⟩, ⟨gi, by omega, rfl, ?_⟩, ⟨gn, by omega, rfl, ?_⟩⟩
    · exact RowG.set (RowG.set (RowG.set (RowG.set (RowG.set (RowG.set (RowG.set (RowG.set (RowG.set (RowG.set R0.out (by omega) _ _) (by omega) _ _) (by omega) _ _) (by omega) _ _) (by omega) _ _) (by omega) _ _) (by omega) _ _) (by omega) _ _) (by omega) _ _) (by omega) _ _
    · exact RowG.set (RowG.set (RowG.set (RowG.set (RowG.set (RowG.set (RowG.set (RowG.set (RowG.set (RowG.set R1.out (by omega) _ _) (by omega) _ _) (by omega) _ _) (by omega) _ _) (by omega) _ _) (by omega) _ _) (by omega) _ _) (by omega) _ _) (by omega) _ _) (by omega) _ _
    · exact RowG.set (RowG.set (RowG.set (RowG.set (RowG.set (RowG.set (RowG.set (RowG.set (RowG.set (RowG.set R2.out (by omega) _ _) (by omega) _ _) (by omega) _ _) (by omega) _ _) (by omega) _ _) (by omega) _ _) (by omega) _ _) (by omega) _ _) (by omega) _ _) (by omega) _ _
    · exact RowG.set (RowG.set (RowG.set (RowG.set (RowG.set (RowG.set (RowG.set (RowG.set (RowG.set (RowG.set R3.out (by omega) _ _) (by omega) _ _) (by omega) _ _) (by omega) _ _) (by omega) _ _) (by omega) _ _) (by omega) _ _) (by omega) _ _) (by omega) _ _) (by omega) _ _
  · exact (((((((((hB.setCell (p := ⟨w.heap.size + 1 + 1, 8, none⟩) (by simp; omega) _).setCell (p := ⟨w.heap.size + 1, 0, none⟩) (by simp) _).setCell (p := ⟨w.heap.size + 1, 1, none⟩) (by simp) _).setCell (p := ⟨w.heap.size + 1, 2, none⟩) (by simp) _).setCell (p := ⟨w.heap.size + 1, 3, none⟩) (by simp) _).setCell (p := ⟨w.heap.size + 1, 4, none⟩) (by simp) _).setCell (p := ⟨w.heap.size + 1, 5, none⟩) (by simp) _).setCell (p := ⟨w.heap.size + 1, 6, none⟩) (by simp) _).setCell (p := ⟨w.heap.size + 1, 7, none⟩) (by simp) _).setCell (p := ⟨w.heap.size + 1, 8, none⟩) (by simp) _

theorem FC.len (x : FC) : x.cells.length = 9 := rfl
theorem contG_snoc {α : Type} {k : Nat} {cells : α → List Value} {ys : List α} {ar : Array Value} {m len : Nat} (y : α) (hk : ∀ x, (cells x).length = k) (h : ContG k cells ys ar m) (hl : ys.length = m) (hs : ar.size = len * k) (hm : m < len) : ContG k cells (ys ++ [y]) (putl ar (m * k) (cells y)) (m + 1) := by
  have h' : ContG k cells (ys ++ [y]) ar m := by
    intro i q hi hq
    rw [List.getElem?_append_left (by omega)] at hq
    exact h i q hi hq
  exact contG_step hk h' (by rw [List.getElem?_append_right (by omega)]; simp [hl]) hs hm
theorem map_snoc {xs ys : List FC} {m : Nat} {f y : FC} (h : ys.map FC.d = (xs.take m).map FC.d) (hf : xs[m]? = some f) (hy : y.d = f.d) : (ys ++ [y]).map FC.d = (xs.take (m + 1)).map FC.d := by
  rw [List.take_add_one, hf, List.map_append, List.map_append, h]
  simp [hy]

set_option maxRecDepth 20000 in
set_option maxHeartbeats 8000000 in
theorem tops_any (a : Option Addr) (len cap : Nat) (xs : List FC) (w : World) (hl : xs.length = len) (hp : SlA w 9 FC.cells a xs) (hlie : ∀ x ∈ xs, x.lie w) (hok : ∀ x ∈ xs, x.d.ok) (hlen : len ≤ 1048576) :
    Calls Tryz.prog 14 #[.slice a len cap] w fun e w' => e = .returned (.slice (some ⟨w.heap.size, 0, none⟩) len len) ∧ Below w.heap.size w w' ∧ ∃ ys : List FC, ys.map FC.d = xs.map FC.d ∧ RowG w' w.heap.size 9 43 FC.cells ys ∧ ∀ y ∈ ys, y.own (w.heap.size + 1) w' := by
  obtain ⟨arr, hsz, hmk⟩ := make_of (P := Tryz.prog) 29 43 9 144 len Tryz.underlying29 (by kernel_rfl) (by omega) hlen w
  have HP : Hid (SlA w 9 FC.cells a xs) := hp
  have HL : Hid (xs.length = len) := hl
  have HLI : Hid (∀ x ∈ xs, x.lie w) := hlie
  have HOK : Hid (∀ x ∈ xs, x.d.ok) := hok
  clear hp hl hlie hok
  go_enter Tryz.func14, Tryz.ntmps14
  go_wp2_with fail
  clear hmk
  go_loopw [4] (fun i wr => ∃ (m : Nat) (ar : Array Value) (ys : List FC), m ≤ len ∧ i = .int .i64 m ∧ Below w.heap.size w wr ∧ Hid (wr.heap[w.heap.size]? = some (.cells ar 43)) ∧ ar.size = len * 9 ∧ Hid (ys.length = m) ∧ Hid (ys.map FC.d = (xs.take m).map FC.d) ∧ Hid (ContG 9 FC.cells ys ar m) ∧ Hid (∀ y ∈ ys, y.own (w.heap.size + 1) wr)) (fun i _ => len - (intOf i).toNat)
  case atStart => exact ⟨0, arr, [], Nat.zero_le _, rfl, bw1 _ _, blk_new _ _, hsz, rfl, rfl, contG_zero _ _ _ _, fun y hy => by simp at hy⟩
  case round =>
    obtain ⟨m, ar, ys, hm, rfl, hB, hA, hS, HYL, HYD, hC, HYO⟩ := hrel
    by_cases k1 : m < len
    · obtain ⟨f, hf⟩ : ∃ f, xs[m]? = some f := ⟨xs[m]'(by rw [HL.out]; exact k1), by simp⟩
      obtain ⟨b, off, rfl, hb, hc⟩ := HP.out m f hf
      have HF : Hid (xs[m]? = some f) := hf
      have HFL : Hid (f.lie w) := HLI.out f (List.mem_of_getElem? hf)
      have HFO : Hid f.d.ok := HOK.out f (List.mem_of_getElem? hf)
      have c0 : wr.cell? ⟨b, off + m * 9, none⟩ = some (.string f.d.name) := cell_later hB (hc 0 _ rfl)
      have c1 : wr.cell? ⟨b, off + m * 9 + 1, none⟩ = some (.int .i64 f.d.line) := cell_later hB (hc 1 _ rfl)
      have c2 : wr.cell? ⟨b, off + m * 9 + 2, none⟩ = some (.int .i64 f.d.params) := cell_later hB (hc 2 _ rfl)
      have c3 : wr.cell? ⟨b, off + m * 9 + 3, none⟩ = some (.bool f.d.rest) := cell_later hB (hc 3 _ rfl)
      have c4 : wr.cell? ⟨b, off + m * 9 + 4, none⟩ = some (.int .i64 f.d.regs) := cell_later hB (hc 4 _ rfl)
      have c5 : wr.cell? ⟨b, off + m * 9 + 5, none⟩ = some (.slice f.au f.d.ups.length f.cu) := cell_later hB (hc 5 _ rfl)
      have c6 : wr.cell? ⟨b, off + m * 9 + 6, none⟩ = some (.slice f.ac f.d.consts.length f.cc) := cell_later hB (hc 6 _ rfl)
      have c7 : wr.cell? ⟨b, off + m * 9 + 7, none⟩ = some (.slice f.ai f.d.ins.length f.ci) := cell_later hB (hc 7 _ rfl)
      have c8 : wr.cell? ⟨b, off + m * 9 + 8, none⟩ = some (.slice f.an f.d.named.length f.cn) := cell_later hB (hc 8 _ rfl)
      clear hf hc hb
      go_wp2_with fail
      refine (top_any f _ (HFL.out.later hB) HFO.out).mono ?_
      rintro e w1 ⟨⟨y, rfl, hyd, hyo⟩, hx⟩
      have HA1 : Hid (w1.heap[w.heap.size]? = some (.cells ar 43)) := blk_later hx hA.out
      have hlt := blk_lt hA.out
      have HYO1 : Hid (∀ z ∈ ys ++ [y], z.own (w.heap.size + 1) w1) := by
        intro z hz
        rcases List.mem_append.1 hz with h | h
        · exact (HYO.out z h).later hx
        · rw [List.mem_singleton.1 h]; exact hyo.mono (by omega)
      have HYD1 : Hid ((ys ++ [y]).map FC.d = (xs.take (m + 1)).map FC.d) := map_snoc HYD.out HF.out hyd
      have HC1 : Hid (ContG 9 FC.cells (ys ++ [y]) (putl ar (m * 9) y.cells) (m + 1)) := contG_snoc y FC.len hC.out HYL.out hS k1
      have HYL1 : Hid ((ys ++ [y]).length = m + 1) := by show (ys ++ [y]).length = m + 1; rw [List.length_append, HYL.out]; rfl
      replace hB := hB.trans (hx.mono hB.size)
      clear hx hyd hyo HYO HYD hC HYL hlt c0 c1 c2 c3 c4 c5 c6 c7 c8
      obtain ⟨y0, e0⟩ : ∃ y, w1.cell? ⟨w.heap.size, m * 9, none⟩ = some y := ⟨ar[m * 9]'(by omega), by rw [blk_cell HA1.out]; simp⟩
      obtain ⟨y1, e1⟩ : ∃ y, w1.cell? ⟨w.heap.size, m * 9 + 1, none⟩ = some y := ⟨ar[m * 9 + 1]'(by omega), by rw [blk_cell HA1.out]; simp⟩
      obtain ⟨y2, e2⟩ : ∃ y, w1.cell? ⟨w.heap.size, m * 9 + 2, none⟩ = some y := ⟨ar[m * 9 + 2]'(by omega), by rw [blk_cell HA1.out]; simp⟩
      obtain ⟨y3, e3⟩ : ∃ y, w1.cell? ⟨w.heap.size, m * 9 + 3, none⟩ = some y := ⟨ar[m * 9 + 3]'(by omega), by rw [blk_cell HA1.out]; simp⟩
      obtain ⟨y4, e4⟩ : ∃ y, w1.cell? ⟨w.heap.size, m * 9 + 4, none⟩ = some y := ⟨ar[m * 9 + 4]'(by omega), by rw [blk_cell HA1.out]; simp⟩
      obtain ⟨y5, e5⟩ : ∃ y, w1.cell? ⟨w.heap.size, m * 9 + 5, none⟩ = some y := ⟨ar[m * 9 + 5]'(by omega), by rw [blk_cell HA1.out]; simp⟩
      obtain ⟨y6, e6⟩ : ∃ y, w1.cell? ⟨w.heap.size, m * 9 + 6, none⟩ = some y := ⟨ar[m * 9 + 6]'(by omega), by rw [blk_cell HA1.out]; simp⟩
      obtain ⟨y7, e7⟩ : ∃ y, w1.cell? ⟨w.heap.size, m * 9 + 7, none⟩ = some y := ⟨ar[m * 9 + 7]'(by omega), by rw [blk_cell HA1.out]; simp⟩
      obtain ⟨y8, e8⟩ : ∃ y, w1.cell? ⟨w.heap.size, m * 9 + 8, none⟩ = some y := ⟨ar[m * 9 + 8]'(by omega), by rw [blk_cell HA1.out]; simp⟩
      have z := blk_frozen HA1.out
      clear hA
      go_wp2_with fail
      clear e0 e1 e2 e3 e4 e5 e6 e7 e8 z
      go_roundw
      case rel => exact ⟨m + 1, putl ar (m * 9) y.cells, ys ++ [y], by omega, by go_num, (((((((((hB.setCell (p := ⟨w.heap.size, m * 9, none⟩) (Nat.le_refl _) (.string y.d.name)).setCell (p := ⟨w.heap.size, m * 9 + 1, none⟩) (Nat.le_refl _) (.int .i64 y.d.line)).setCell (p := ⟨w.heap.size, m * 9 + 2, none⟩) (Nat.le_refl _) (.int .i64 y.d.params)).setCell (p := ⟨w.heap.size, m * 9 + 3, none⟩) (Nat.le_refl _) (.bool y.d.rest)).setCell (p := ⟨w.heap.size, m * 9 + 4, none⟩) (Nat.le_refl _) (.int .i64 y.d.regs)).setCell (p := ⟨w.heap.size, m * 9 + 5, none⟩) (Nat.le_refl _) (.slice y.au y.d.ups.length y.cu)).setCell (p := ⟨w.heap.size, m * 9 + 6, none⟩) (Nat.le_refl _) (.slice y.ac y.d.consts.length y.cc)).setCell (p := ⟨w.heap.size, m * 9 + 7, none⟩) (Nat.le_refl _) (.slice y.ai y.d.ins.length y.ci)).setCell (p := ⟨w.heap.size, m * 9 + 8, none⟩) (Nat.le_refl _) (.slice y.an y.d.named.length y.cn)), (blk_set (blk_set (blk_set (blk_set (blk_set (blk_set (blk_set (blk_set (blk_set HA1.out (m * 9) (.string y.d.name)) (m * 9 + 1) (.int .i64 y.d.line)) (m * 9 + 2) (.int .i64 y.d.params)) (m * 9 + 3) (.bool y.d.rest)) (m * 9 + 4) (.int .i64 y.d.regs)) (m * 9 + 5) (.slice y.au y.d.ups.length y.cu)) (m * 9 + 6) (.slice y.ac y.d.consts.length y.cc)) (m * 9 + 7) (.slice y.ai y.d.ins.length y.ci)) (m * 9 + 8) (.slice y.an y.d.named.length y.cn)), by rw [putl_size]; exact hS, HYL1, HYD1, HC1, fun z hz => ((((((((((HYO1.out z hz).set (q := w.heap.size) (by omega) (m * 9) (.string y.d.name)).set (q := w.heap.size) (by omega) (m * 9 + 1) (.int .i64 y.d.line)).set (q := w.heap.size) (by omega) (m * 9 + 2) (.int .i64 y.d.params)).set (q := w.heap.size) (by omega) (m * 9 + 3) (.bool y.d.rest)).set (q := w.heap.size) (by omega) (m * 9 + 4) (.int .i64 y.d.regs)).set (q := w.heap.size) (by omega) (m * 9 + 5) (.slice y.au y.d.ups.length y.cu)).set (q := w.heap.size) (by omega) (m * 9 + 6) (.slice y.ac y.d.consts.length y.cc)).set (q := w.heap.size) (by omega) (m * 9 + 7) (.slice y.ai y.d.ins.length y.ci)).set (q := w.heap.size) (by omega) (m * 9 + 8) (.slice y.an y.d.named.length y.cn))⟩
      case measure => simp [intOf]; omega
    · have hml : m = len := by omega
      subst hml
      have HR : Hid (ys.map FC.d = xs.map FC.d) := by have h := HYD.out; rw [List.take_of_length_le (by rw [HL.out]; omega)] at h; exact h
      clear HYD
      go_wp2_with fail
      go_ret
      exact ⟨rfl, hB, ys, HR.out, ⟨ar, hA.out, by rw [HYL.out]; exact hS, by rw [HYL.out]; exact hC.out⟩, HYO.out⟩

theorem code_of {w : World} {g : Nat} {xs ys : List FC} (hd : ys.map FC.d = xs.map FC.d) (hr : RowG w g 9 43 FC.cells ys) (ho : ∀ y ∈ ys, y.own (g + 1) w) (hok : ∀ x ∈ xs, x.d.ok) (hlen : xs.length ≤ 1048576) (hall : (xs.map fun x => x.d.ins.length).sum ≤ 1048576) : CodeAt w (some ⟨g, 0, none⟩) ys := by
  refine ⟨hr.at, fun y hy => (ho y hy).lie, fun y hy => ?_, ?_, ?_⟩
  · have hm : y.d ∈ ys.map FC.d := List.mem_map.2 ⟨y, hy, rfl⟩
    rw [hd] at hm
    obtain ⟨x, hx, he⟩ := List.mem_map.1 hm
    rw [← he]; exact hok x hx
  · have h := congrArg List.length hd
    simp only [List.length_map] at h
    omega
  · have h1 : ∀ l : List FC, (l.map fun x => x.d.ins.length) = (l.map FC.d).map fun f => f.ins.length := fun l => by rw [List.map_map]; rfl
    rw [h1, hd, ← h1]; exact hall

set_option maxRecDepth 20000 in
set_option maxHeartbeats 4000000 in
theorem toc_any (a : Option Addr) (len cap : Nat) (xs : List FC) (w : World) (H0 : CodeAt w a xs) (hl : xs.length = len) :
    Calls Tryz.prog 6 #[.agg #[.slice a len cap]] w fun e w' => (∃ g ys, e = .returned (.agg #[.slice (some ⟨g, 0, none⟩) len len]) ∧ ys.map FC.d = xs.map FC.d ∧ CodeAt w' (some ⟨g, 0, none⟩) ys) ∧ Below w.heap.size w w' := by
  have H : Hid (CodeAt w a xs) := H0
  have hlen : len ≤ 1048576 := by rw [← hl]; exact H0.len
  have HL : Hid (xs.length = len) := hl
  clear H0 hl
  have hy := bw3 w (.cells #[.slice a len cap] 24) (CO (.slice none 0 0)) (CO (.slice none 0 0))
  have hz1 : (((w.alloc (.cells #[.slice a len cap] 24)).alloc (CO (.slice none 0 0))).alloc (CO (.slice none 0 0))).heap[w.heap.size + 1]? = some (CO (.slice none 0 0)) := blk_old (blk_newn (by simp) _) _
  have hz2 : (((w.alloc (.cells #[.slice a len cap] 24)).alloc (CO (.slice none 0 0))).alloc (CO (.slice none 0 0))).heap[w.heap.size + 1 + 1]? = some (CO (.slice none 0 0)) := blk_newn (by simp) _
  obtain ⟨g, hg⟩ : ∃ g, g = (((w.alloc (.cells #[.slice a len cap] 24)).alloc (CO (.slice none 0 0))).alloc (CO (.slice none 0 0))).heap.size := ⟨_, rfl⟩
  have hg3 : w.heap.size + 3 = g := by rw [hg]; simp
  go_enter Tryz.func6, Tryz.ntmps6
  go_wp2_with fail
  refine (tops_any a len cap xs _ HL.out (H.out.row.later hy) (fun x hx => (H.out.lie x hx).later hy) H.out.ok hlen).mono ?_
  rw [← hg]
  rintro e w1 ⟨rfl, hx, ys, hd, hR, hO⟩
  rw [hg] at hx
  have B1 := blk_later hx hz1
  have B2 := blk_later hx hz2
  have hB := hy.trans (hx.mono hy.size)
  have HD : Hid (ys.map FC.d = xs.map FC.d) := hd
  have HR : Hid (RowG w1 g 9 43 FC.cells ys) := hR
  have HO : Hid (∀ y ∈ ys, y.own (g + 1) w1) := hO
  have HG : Hid (w.heap.size + 3 = g) := hg3
  have s0 : w1.cell? ⟨w.heap.size + 1, 0, none⟩ = some (.slice none 0 0) := by rw [blk_cell B1]; rfl
  have o0 : w1.cell? ⟨w.heap.size + 1 + 1, 0, none⟩ = some (.slice none 0 0) := by rw [blk_cell B2]; rfl
  have z1 := blk_frozen B1
  have z2 := blk_frozen B2
  clear hx hy hz1 hz2 B1 B2 hg hg3 hd hR hO
  go_wp2_with fail
  refine bodyPost_ret (v := .agg #[.slice (some ⟨g, 0, none⟩) len len]) (by simp [results, Tryz.results6, go_sem, s0]) rfl ⟨⟨g, ys, rfl, HD.out, ?_⟩, ?_⟩
  · have hgg := HG.out
    refine code_of HD.out (RowG.set (RowG.set HR.out (by omega) _ _) (by omega) _ _) (fun y hy => ((HO.out y hy).set (q := w.heap.size + 1 + 1) (by omega) _ _).set (q := w.heap.size + 1) (by omega) _ _) H.out.ok (by rw [HL.out]; exact hlen) H.out.all
  · exact (hB.setCell (p := ⟨w.heap.size + 1 + 1, 0, none⟩) (by simp; omega) _).setCell (p := ⟨w.heap.size + 1, 0, none⟩) (by simp) _
end Go.Proofs.YtmicnjphlakoaaaGreatDoor
