/-
  OWN WORK. The program's shape: an instruction is as the table says.
-/
import Derived.Test.YtmicnjphlakoaaaGreatDoorCImC
namespace Go.Proofs.YtmicnjphlakoaaaGreatDoor
open Go.RowKit
set_option linter.unusedVariables false
set_option linter.unusedSimpArgs false

theorem idx4_0 (a0 a1 a2 a3 a4 a5 a6 a7 : Value) (w : World) : (Instr.index 145 (.agg #[a0, a1, a2, a3, a4, a5, a6, a7]) (.int .i64 0)).run Tryz.prog w = .ok (.agg #[a0, a1]) w := by kernel_rfl
theorem idx4_1 (a0 a1 a2 a3 a4 a5 a6 a7 : Value) (w : World) : (Instr.index 145 (.agg #[a0, a1, a2, a3, a4, a5, a6, a7]) (.int .i64 1)).run Tryz.prog w = .ok (.agg #[a2, a3]) w := by kernel_rfl
theorem idx4_2 (a0 a1 a2 a3 a4 a5 a6 a7 : Value) (w : World) : (Instr.index 145 (.agg #[a0, a1, a2, a3, a4, a5, a6, a7]) (.int .i64 2)).run Tryz.prog w = .ok (.agg #[a4, a5]) w := by kernel_rfl
theorem idx4_3 (a0 a1 a2 a3 a4 a5 a6 a7 : Value) (w : World) : (Instr.index 145 (.agg #[a0, a1, a2, a3, a4, a5, a6, a7]) (.int .i64 3)).run Tryz.prog w = .ok (.agg #[a6, a7]) w := by kernel_rfl

theorem lay_nat {k j : Nat} (h0 : 1 ≤ k) (h1 : k < 43) (hj : j < 4) : ∃ r : Nat, li k j = r ∧ r < 24 ∧ conv r = rl (k : Int) j := by
  obtain ⟨a, b, c⟩ := lay_fits ⟨k, h1⟩ h0 ⟨j, hj⟩
  simp only at a b c
  exact ⟨(li k j).toNat, by omega, by omega, c⟩

set_option maxRecDepth 20000 in
set_option maxHeartbeats 8000000 in
theorem iins_any (b off len cap p : Nat) (f : FC) (n : ID) (w : World) (hpl : p < len) (hlen : len ≤ 1048576) (hc : Cell9 w b (off + p * 9) f) (ok : f.d.ok) (hr0 : 0 ≤ f.d.regs) (hr1 : f.d.regs ≤ 250) (hl : LayAt w) :
    Calls Tryz.prog 54 #[.agg #[.slice (some ⟨b, off, none⟩) len cap], .int .i64 p, IV n] w fun e w' => e = .returned (.bool (fieldsB len f.d n)) ∧ Below w.heap.size w w' := by
  have HC : Hid (Cell9 w b (off + p * 9) f) := hc
  have HO : Hid f.d.ok := ok
  have HLY : Hid (LayAt w) := hl
  clear hc ok hl
  cases hin : inR n.op 1 42
  · go_enter Tryz.func54, Tryz.ntmps54
    go_wp2_with (go_at_call 50; refine (wi_any _ _ _ _).mono ?_; rw [hin]; rintro e w' ⟨rfl, rfl⟩)
    go_ret
    exact ⟨ret_bo (by simp [fieldsB, hin]), bw2 _ _ _⟩
  have hop : 1 ≤ n.op ∧ n.op ≤ 42 := by simpa [inR] using hin
  obtain ⟨h0, h1⟩ := hop
  obtain ⟨k, hk⟩ : ∃ k : Nat, n.op = k := ⟨n.op.toNat, by omega⟩
  have hk0 : 1 ≤ k := by omega
  have hk1 : k < 43 := by omega
  obtain ⟨q0, e0, l0, t0⟩ := lay_nat hk0 hk1 (j := 0) (by omega)
  obtain ⟨q1, e1, l1, t1⟩ := lay_nat hk0 hk1 (j := 1) (by omega)
  obtain ⟨q2, e2, l2, t2⟩ := lay_nat hk0 hk1 (j := 2) (by omega)
  obtain ⟨q3, e3, l3, t3⟩ := lay_nat hk0 hk1 (j := 3) (by omega)
  have T0 : Hid (lohi len f.d (conv q0) = lohi len f.d (rl n.op 0)) := by show lohi _ _ _ = _; rw [t0, hk]
  have T1 : Hid (lohi len f.d (conv q1) = lohi len f.d (rl n.op 1)) := by show lohi _ _ _ = _; rw [t1, hk]
  have T2 : Hid (lohi len f.d (conv q2) = lohi len f.d (rl n.op 2)) := by show lohi _ _ _ = _; rw [t2, hk]
  have T3 : Hid (lohi len f.d (conv q3) = lohi len f.d (rl n.op 3)) := by show lohi _ _ _ = _; rw [t3, hk]
  have HK : Hid (n.op = k) := hk
  clear t0 t1 t2 t3 hk
  go_enter Tryz.func54, Tryz.ntmps54
  go_wp2_with (go_at_call 50; refine (wi_any _ _ _ _).mono ?_; rw [hin]; rintro e w' ⟨rfl, rfl⟩)
  refine (fieldsof_any n k _ HK.out hk1 (HLY.out.later (bw2 _ _ _))).mono ?_
  simp only [F8, e0, e1, e2, e3]
  rintro e w1 ⟨rfl, hx⟩
  have B0 : Hid (w1.heap[w.heap.size]? = some (CO (.slice (some ⟨b, off, none⟩) len cap))) := blk_later hx (blk_old (blk_new _ _) _)
  have hB : Below w.heap.size w w1 := (bw2 _ _ _).trans (hx.mono (by simp; omega))
  clear hx e0 e1 e2 e3
  go_wp2_with fail
  go_loopw [17] (fun i wr => ∃ m : Nat, m ≤ 4 ∧ i = .int .i64 m ∧ Below w.heap.size w wr ∧ Hid (wr.heap[w.heap.size]? = some (CO (.slice (some ⟨b, off, none⟩) len cap))) ∧ Hid (∀ j, j < m → fitsB len f.d (rl n.op j) (fv n j) = true)) (fun i _ => 4 - (intOf i).toNat)
  case atStart => exact ⟨0, by omega, rfl, hB, B0, fun j hj => absurd hj (Nat.not_lt_zero _)⟩
  case round =>
    clear hB B0
    obtain ⟨m, hm, rfl, hB, B0, HF⟩ := hrel
    by_cases k1 : m < 4
    · have hmc : m = 0 ∨ m = 1 ∨ m = 2 ∨ m = 3 := by omega
      rcases hmc with rfl | rfl | rfl | rfl
      · have hy := bw1 wr (.cells #[.int .i64 q0, .int .i64 n.a] 144)
        have a0 : (wr.alloc (.cells #[.int .i64 q0, .int .i64 n.a] 144)).cell? ⟨w.heap.size, 0, none⟩ = some (.slice (some ⟨b, off, none⟩) len cap) := by rw [blk_cell (blk_later hy B0.out)]; rfl
        have hix := idx4_0 (.int .i64 q0) (.int .i64 n.a) (.int .i64 q1) (.int .i64 n.b) (.int .i64 q2) (.int .i64 n.c) (.int .i64 q3) (.int .i64 n.d)
        have hBa := hB.trans (hy.mono hB.size)
        have B0a : Hid _ := blk_later hy B0.out
        cases hfit : inR n.a (lohi len f.d (conv q0)).1 (lohi len f.d (conv q0)).2
        · have HN : Hid (fieldsB len f.d n = false) := fields_not (j := 0) (by omega) (by rw [T0.out] at hfit; exact hfit)
          go_wp2_with fail
          refine (bounds_any q0 b off len cap p f _ l0 hpl hlen (HC.out.later hBa) hr0 hr1 HO.out).mono ?_
          rintro e w2 ⟨rfl, hx⟩
          have n1 : w2.cell? ⟨wr.heap.size, 1, none⟩ = some (.int .i64 n.a) := by rw [blk_cell (blk_later hx (blk_new _ _))]; rfl
          replace hB := hBa.trans (hx.mono hBa.size)
          clear hx a0
          go_wp2_with (go_at_call 50; refine (wi_any _ _ _ _).mono ?_; rw [hfit]; rintro e w' ⟨rfl, rfl⟩)
          go_ret
          exact ⟨ret_bo HN.out.symm, hB⟩
        · have HF1 : Hid (∀ j, j < 0 + 1 → fitsB len f.d (rl n.op j) (fv n j) = true) := by
            intro j hj
            by_cases hjm : j = 0
            · subst hjm; rw [T0.out] at hfit; exact hfit
            · exact HF.out j (by omega)
          clear HF
          go_wp2_with fail
          refine (bounds_any q0 b off len cap p f _ l0 hpl hlen (HC.out.later hBa) hr0 hr1 HO.out).mono ?_
          rintro e w2 ⟨rfl, hx⟩
          have n1 : w2.cell? ⟨wr.heap.size, 1, none⟩ = some (.int .i64 n.a) := by rw [blk_cell (blk_later hx (blk_new _ _))]; rfl
          replace hB := hBa.trans (hx.mono hBa.size)
          replace B0 : Hid _ := blk_later hx B0a.out
          clear hx a0
          go_wp2_with (go_at_call 50; refine (wi_any _ _ _ _).mono ?_; rw [hfit]; rintro e w' ⟨rfl, rfl⟩)
          go_roundw
          case rel => exact ⟨0 + 1, by omega, by go_num, hB, B0, HF1⟩
          case measure => simp [intOf]
      · have hy := bw1 wr (.cells #[.int .i64 q1, .int .i64 n.b] 144)
        have a0 : (wr.alloc (.cells #[.int .i64 q1, .int .i64 n.b] 144)).cell? ⟨w.heap.size, 0, none⟩ = some (.slice (some ⟨b, off, none⟩) len cap) := by rw [blk_cell (blk_later hy B0.out)]; rfl
        have hix := idx4_1 (.int .i64 q0) (.int .i64 n.a) (.int .i64 q1) (.int .i64 n.b) (.int .i64 q2) (.int .i64 n.c) (.int .i64 q3) (.int .i64 n.d)
        have hBa := hB.trans (hy.mono hB.size)
        have B0a : Hid _ := blk_later hy B0.out
        cases hfit : inR n.b (lohi len f.d (conv q1)).1 (lohi len f.d (conv q1)).2
        · have HN : Hid (fieldsB len f.d n = false) := fields_not (j := 1) (by omega) (by rw [T1.out] at hfit; exact hfit)
          go_wp2_with fail
          refine (bounds_any q1 b off len cap p f _ l1 hpl hlen (HC.out.later hBa) hr0 hr1 HO.out).mono ?_
          rintro e w2 ⟨rfl, hx⟩
          have n1 : w2.cell? ⟨wr.heap.size, 1, none⟩ = some (.int .i64 n.b) := by rw [blk_cell (blk_later hx (blk_new _ _))]; rfl
          replace hB := hBa.trans (hx.mono hBa.size)
          clear hx a0
          go_wp2_with (go_at_call 50; refine (wi_any _ _ _ _).mono ?_; rw [hfit]; rintro e w' ⟨rfl, rfl⟩)
          go_ret
          exact ⟨ret_bo HN.out.symm, hB⟩
        · have HF1 : Hid (∀ j, j < 1 + 1 → fitsB len f.d (rl n.op j) (fv n j) = true) := by
            intro j hj
            by_cases hjm : j = 1
            · subst hjm; rw [T1.out] at hfit; exact hfit
            · exact HF.out j (by omega)
          clear HF
          go_wp2_with fail
          refine (bounds_any q1 b off len cap p f _ l1 hpl hlen (HC.out.later hBa) hr0 hr1 HO.out).mono ?_
          rintro e w2 ⟨rfl, hx⟩
          have n1 : w2.cell? ⟨wr.heap.size, 1, none⟩ = some (.int .i64 n.b) := by rw [blk_cell (blk_later hx (blk_new _ _))]; rfl
          replace hB := hBa.trans (hx.mono hBa.size)
          replace B0 : Hid _ := blk_later hx B0a.out
          clear hx a0
          go_wp2_with (go_at_call 50; refine (wi_any _ _ _ _).mono ?_; rw [hfit]; rintro e w' ⟨rfl, rfl⟩)
          go_roundw
          case rel => exact ⟨1 + 1, by omega, by go_num, hB, B0, HF1⟩
          case measure => simp [intOf]
      · have hy := bw1 wr (.cells #[.int .i64 q2, .int .i64 n.c] 144)
        have a0 : (wr.alloc (.cells #[.int .i64 q2, .int .i64 n.c] 144)).cell? ⟨w.heap.size, 0, none⟩ = some (.slice (some ⟨b, off, none⟩) len cap) := by rw [blk_cell (blk_later hy B0.out)]; rfl
        have hix := idx4_2 (.int .i64 q0) (.int .i64 n.a) (.int .i64 q1) (.int .i64 n.b) (.int .i64 q2) (.int .i64 n.c) (.int .i64 q3) (.int .i64 n.d)
        have hBa := hB.trans (hy.mono hB.size)
        have B0a : Hid _ := blk_later hy B0.out
        cases hfit : inR n.c (lohi len f.d (conv q2)).1 (lohi len f.d (conv q2)).2
        · have HN : Hid (fieldsB len f.d n = false) := fields_not (j := 2) (by omega) (by rw [T2.out] at hfit; exact hfit)
          go_wp2_with fail
          refine (bounds_any q2 b off len cap p f _ l2 hpl hlen (HC.out.later hBa) hr0 hr1 HO.out).mono ?_
          rintro e w2 ⟨rfl, hx⟩
          have n1 : w2.cell? ⟨wr.heap.size, 1, none⟩ = some (.int .i64 n.c) := by rw [blk_cell (blk_later hx (blk_new _ _))]; rfl
          replace hB := hBa.trans (hx.mono hBa.size)
          clear hx a0
          go_wp2_with (go_at_call 50; refine (wi_any _ _ _ _).mono ?_; rw [hfit]; rintro e w' ⟨rfl, rfl⟩)
          go_ret
          exact ⟨ret_bo HN.out.symm, hB⟩
        · have HF1 : Hid (∀ j, j < 2 + 1 → fitsB len f.d (rl n.op j) (fv n j) = true) := by
            intro j hj
            by_cases hjm : j = 2
            · subst hjm; rw [T2.out] at hfit; exact hfit
            · exact HF.out j (by omega)
          clear HF
          go_wp2_with fail
          refine (bounds_any q2 b off len cap p f _ l2 hpl hlen (HC.out.later hBa) hr0 hr1 HO.out).mono ?_
          rintro e w2 ⟨rfl, hx⟩
          have n1 : w2.cell? ⟨wr.heap.size, 1, none⟩ = some (.int .i64 n.c) := by rw [blk_cell (blk_later hx (blk_new _ _))]; rfl
          replace hB := hBa.trans (hx.mono hBa.size)
          replace B0 : Hid _ := blk_later hx B0a.out
          clear hx a0
          go_wp2_with (go_at_call 50; refine (wi_any _ _ _ _).mono ?_; rw [hfit]; rintro e w' ⟨rfl, rfl⟩)
          go_roundw
          case rel => exact ⟨2 + 1, by omega, by go_num, hB, B0, HF1⟩
          case measure => simp [intOf]
      · have hy := bw1 wr (.cells #[.int .i64 q3, .int .i64 n.d] 144)
        have a0 : (wr.alloc (.cells #[.int .i64 q3, .int .i64 n.d] 144)).cell? ⟨w.heap.size, 0, none⟩ = some (.slice (some ⟨b, off, none⟩) len cap) := by rw [blk_cell (blk_later hy B0.out)]; rfl
        have hix := idx4_3 (.int .i64 q0) (.int .i64 n.a) (.int .i64 q1) (.int .i64 n.b) (.int .i64 q2) (.int .i64 n.c) (.int .i64 q3) (.int .i64 n.d)
        have hBa := hB.trans (hy.mono hB.size)
        have B0a : Hid _ := blk_later hy B0.out
        cases hfit : inR n.d (lohi len f.d (conv q3)).1 (lohi len f.d (conv q3)).2
        · have HN : Hid (fieldsB len f.d n = false) := fields_not (j := 3) (by omega) (by rw [T3.out] at hfit; exact hfit)
          go_wp2_with fail
          refine (bounds_any q3 b off len cap p f _ l3 hpl hlen (HC.out.later hBa) hr0 hr1 HO.out).mono ?_
          rintro e w2 ⟨rfl, hx⟩
          have n1 : w2.cell? ⟨wr.heap.size, 1, none⟩ = some (.int .i64 n.d) := by rw [blk_cell (blk_later hx (blk_new _ _))]; rfl
          replace hB := hBa.trans (hx.mono hBa.size)
          clear hx a0
          go_wp2_with (go_at_call 50; refine (wi_any _ _ _ _).mono ?_; rw [hfit]; rintro e w' ⟨rfl, rfl⟩)
          go_ret
          exact ⟨ret_bo HN.out.symm, hB⟩
        · have HF1 : Hid (∀ j, j < 3 + 1 → fitsB len f.d (rl n.op j) (fv n j) = true) := by
            intro j hj
            by_cases hjm : j = 3
            · subst hjm; rw [T3.out] at hfit; exact hfit
            · exact HF.out j (by omega)
          clear HF
          go_wp2_with fail
          refine (bounds_any q3 b off len cap p f _ l3 hpl hlen (HC.out.later hBa) hr0 hr1 HO.out).mono ?_
          rintro e w2 ⟨rfl, hx⟩
          have n1 : w2.cell? ⟨wr.heap.size, 1, none⟩ = some (.int .i64 n.d) := by rw [blk_cell (blk_later hx (blk_new _ _))]; rfl
          replace hB := hBa.trans (hx.mono hBa.size)
          replace B0 : Hid _ := blk_later hx B0a.out
          clear hx a0
          go_wp2_with (go_at_call 50; refine (wi_any _ _ _ _).mono ?_; rw [hfit]; rintro e w' ⟨rfl, rfl⟩)
          go_roundw
          case rel => exact ⟨3 + 1, by omega, by go_num, hB, B0, HF1⟩
          case measure => simp [intOf]
    · have hm4 : m = 4 := by omega
      subst hm4
      have HR : Hid (fieldsB len f.d n = true) := fields_all h0 h1 HF.out
      clear HF
      go_wp2_with fail
      go_ret
      exact ⟨ret_bo HR.out.symm, hB⟩
end Go.Proofs.YtmicnjphlakoaaaGreatDoor
