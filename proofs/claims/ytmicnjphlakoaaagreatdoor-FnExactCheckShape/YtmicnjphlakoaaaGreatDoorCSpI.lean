/-
  OWN WORK. The specification's shape: an instruction is as the table says.
-/
import Derived.Test.YtmicnjphlakoaaaGreatDoorCSpR
namespace Go.Proofs.YtmicnjphlakoaaaGreatDoor
open Go.RowKit
set_option linter.unusedVariables false
set_option linter.unusedSimpArgs false

/-- The k-th field of an instruction. -/
def fv (n : ID) (k : Nat) : Int := [n.a, n.b, n.c, n.d].getD k 0
theorem fields_all {np : Nat} {f : FD} {n : ID} (h0 : 1 ≤ n.op) (h1 : n.op ≤ 42) (h : ∀ j, j < 4 → fitsB np f (rl n.op j) (fv n j) = true) : fieldsB np f n = true := by
  have a0 := h 0 (by omega)
  have a1 := h 1 (by omega)
  have a2 := h 2 (by omega)
  have a3 := h 3 (by omega)
  simp only [fv, List.getD_cons_zero, List.getD_cons_succ] at a0 a1 a2 a3
  simp [fieldsB, inR, h0, h1, a0, a1, a2, a3]
theorem fields_not {np : Nat} {f : FD} {n : ID} {j : Nat} (hj : j < 4) (h : fitsB np f (rl n.op j) (fv n j) = false) : fieldsB np f n = false := by
  match j, hj with
  | 0, _ => simp only [fv, List.getD_cons_zero] at h; simp [fieldsB, h]
  | 1, _ => simp only [fv, List.getD_cons_zero, List.getD_cons_succ] at h; simp [fieldsB, h]
  | 2, _ => simp only [fv, List.getD_cons_zero, List.getD_cons_succ] at h; simp [fieldsB, h]
  | 3, _ => simp only [fv, List.getD_cons_zero, List.getD_cons_succ] at h; simp [fieldsB, h]

abbrev IO5 (n : ID) : Obj := .cells #[.int .i64 n.op, .int .i64 n.a, .int .i64 n.b, .int .i64 n.c, .int .i64 n.d] 45
abbrev IO4 (n : ID) : Obj := .cells #[.int .i64 n.a, .int .i64 n.b, .int .i64 n.c, .int .i64 n.d] 3

theorem four_cell {w : World} {g : Nat} {a b c d : Int} {t : TypeId} (h : w.heap[g]? = some (.cells #[.int .i64 a, .int .i64 b, .int .i64 c, .int .i64 d] t)) {m : Nat} (hm : m < 4) : w.cell? ⟨g, m, none⟩ = some (.int .i64 ([a, b, c, d].getD m 0)) := by
  rw [blk_cell h]
  match m, hm with
  | 0, _ => rfl
  | 1, _ => rfl
  | 2, _ => rfl
  | 3, _ => rfl
theorem rl_four (op : Int) {m : Nat} (hm : m < 4) : [rl op 0, rl op 1, rl op 2, rl op 3].getD m 0 = rl op m := by
  match m, hm with
  | 0, _ => rfl
  | 1, _ => rfl
  | 2, _ => rfl
  | 3, _ => rfl

theorem sz_alloc (w : World) (o : Obj) : (w.alloc o).heap.size = w.heap.size + 1 := by simp
theorem blk_newn {w : World} {k : Nat} (h : w.heap.size = k) (o : Obj) : (w.alloc o).heap[k]? = some o := by subst h; exact blk_new w o
theorem below_alloc {w w1 : World} (h : Below w.heap.size w w1) (o : Obj) : Below w.heap.size w (w1.alloc o) := h.alloc h.size o

set_option maxRecDepth 20000 in
set_option maxHeartbeats 4000000 in
theorem insok_any (b off len cap p : Nat) (f : FC) (i : Nat) (n : ID) (w : World) (hpl : p < len) (hlen : len ≤ 1048576) (hc : Cell9 w b (off + p * 9) f) (hi : f.d.ins[i]? = some n) (hl : SlA w 5 ID.cells f.ai f.d.ins) (ok : f.d.ok) (hr0 : 0 ≤ f.d.regs) (hr1 : f.d.regs ≤ 250) :
    Calls Tryz.prog 22 #[.agg #[.slice (some ⟨b, off, none⟩) len cap], .int .i64 p, .int .i64 i] w fun e w' => e = .returned (.bool (insB len f.d i n)) ∧ Below w.heap.size w w' := by
  obtain ⟨bi, oi, ha, _, hci⟩ := hl i n hi
  have hil : i < f.d.ins.length := (List.getElem?_eq_some_iff.1 hi).1
  have li := ok.li
  have hx := bw1 w (CO (.slice (some ⟨b, off, none⟩) len cap))
  have c7 := cell_later hx hc.c7
  rw [ha] at c7
  have d0 := cell_later hx (show w.cell? ⟨bi, oi + i * 5, none⟩ = some (.int .i64 n.op) from hci 0 _ rfl)
  have d1 := cell_later hx (hci 1 _ rfl)
  have d2 := cell_later hx (hci 2 _ rfl)
  have d3 := cell_later hx (hci 3 _ rfl)
  have d4 := cell_later hx (hci 4 _ rfl)
  have HC : Hid (Cell9 w b (off + p * 9) f) := hc
  have HO : Hid f.d.ok := ok
  have HA : Hid (f.ai = some ⟨bi, oi, none⟩) := ha
  clear hx hci hi hl hc ok ha
  by_cases hop : 1 ≤ n.op ∧ n.op ≤ 42
  · obtain ⟨h0, h1⟩ := hop
    go_enter Tryz.func22, Tryz.ntmps22
    go_wp2_with (first | (go_at_call 39; refine (roles_in _ _ h0 h1).mono ?_; rintro e w' ⟨rfl, rfl⟩) | (go_at_call 40; refine (fields_any n _).mono ?_; rintro e w' ⟨rfl, rfl⟩))
    clear d0 d1 d2 d3 d4 c7
    go_loopw [30] (fun i wr => ∃ m : Nat, m ≤ 4 ∧ i = .int .i64 m ∧ Below w.heap.size w wr ∧ Hid (wr.heap[w.heap.size]? = some (CO (.slice (some ⟨b, off, none⟩) len cap))) ∧ Hid (wr.heap[w.heap.size + 1]? = some (IO5 n)) ∧ Hid (wr.heap[w.heap.size + 1 + 1]? = some (RO n.op)) ∧ Hid (wr.heap[w.heap.size + 1 + 1 + 1 + 1]? = some (IO4 n)) ∧ Hid (∀ j, j < m → fitsB len f.d (rl n.op j) (fv n j) = true)) (fun i _ => 4 - (intOf i).toNat)
    case atStart =>
      refine ⟨0, by omega, rfl, below_alloc (below_alloc (below_alloc (bw2 _ _ _) _) _) _, ?_, ?_, ?_, ?_, fun j hj => absurd hj (Nat.not_lt_zero _)⟩
      · exact blk_old (blk_old (blk_old (blk_old (blk_new _ _) _) _) _) _
      · exact blk_old (blk_old (blk_old (blk_newn (by simp) _) _) _) _
      · exact blk_old (blk_old (blk_newn (by simp) _) _) _
      · exact blk_newn (by simp) _
    case round =>
      obtain ⟨m, hm, rfl, hB, B0, B1, B2, B4, HF⟩ := hrel
      have a0 : wr.cell? ⟨w.heap.size, 0, none⟩ = some (.slice (some ⟨b, off, none⟩) len cap) := by rw [blk_cell B0.out]; rfl
      by_cases k1 : m < 4
      · have r0 : wr.cell? ⟨w.heap.size + 1 + 1, m, none⟩ = some (.int .i64 (rl n.op m)) := by rw [four_cell B2.out k1, rl_four n.op k1]
        have f0 : wr.cell? ⟨w.heap.size + 1 + 1 + 1 + 1, m, none⟩ = some (.int .i64 (fv n m)) := four_cell B4.out k1
        cases hfit : fitsB len f.d (rl n.op m) (fv n m)
        · have HN : Hid (fieldsB len f.d n = false) := fields_not k1 hfit
          go_wp2_with fail
          go_region_with (go_at_call 41; refine (fits_any b off len cap p f _ _ _ hpl hlen (HC.out.later (hB.trans ((Below.refl _ _).drew))) hr0 hr1 HO.out).mono ?_; rw [hfit]; rintro e w1 ⟨rfl, hx⟩)
          all_goals
            replace hx := und1 hx
            replace hB := hB.trans (hx.mono hB.size)
            clear hx
            go_wp2_with fail
            go_ret
            exact ⟨ret_bo (by simp [insB, HN.out]), hB⟩
        · have HF1 : Hid (∀ j, j < m + 1 → fitsB len f.d (rl n.op j) (fv n j) = true) := by
            intro j hj
            by_cases hjm : j = m
            · subst hjm; exact hfit
            · exact HF.out j (by omega)
          clear HF
          go_wp2_with fail
          go_region_with (go_at_call 41; refine (fits_any b off len cap p f _ _ _ hpl hlen (HC.out.later (hB.trans ((Below.refl _ _).drew))) hr0 hr1 HO.out).mono ?_; rw [hfit]; rintro e w1 ⟨rfl, hx⟩)
          all_goals
            replace hx := und1 hx
            replace hB := hB.trans (hx.mono hB.size)
            replace B0 := blk_later hx B0.out; replace B1 := blk_later hx B1.out; replace B2 := blk_later hx B2.out; replace B4 := blk_later hx B4.out
            replace B0 : Hid _ := B0; replace B1 : Hid _ := B1; replace B2 : Hid _ := B2; replace B4 : Hid _ := B4
            clear hx a0 r0 f0
            go_wp2_with fail
            go_roundw
            case rel => exact ⟨m + 1, by omega, by go_num, hB, B0, B1, B2, B4, HF1⟩
            case measure => simp [intOf]; omega
      · have hm4 : m = 4 := by omega
        subst hm4
        have hall : fieldsB len f.d n = true := fields_all h0 h1 HF.out
        have c7 := cell_later hB HC.out.c7
        rw [HA.out] at c7
        have n0 : wr.cell? ⟨w.heap.size + 1, 0, none⟩ = some (.int .i64 n.op) := by rw [blk_cell B1.out]; rfl
        clear HF B0 B1 B2 B4
        by_cases he : i + 1 = f.d.ins.length
        · have he' : ((i : Int) == (f.d.ins.length : Int) - 1) = true := by simp; omega
          cases e1 : (n.op == 19)
          · cases e2 : (n.op == 29)
            · go_wp2_with fail
              go_ret
              exact ⟨ret_bo (by simp [insB, hall, he, endsB, e1, e2]), hB⟩
            · go_wp2_with fail
              go_ret
              exact ⟨ret_bo (by simp [insB, hall, he, endsB, e1, e2]), hB⟩
          · go_wp2_with fail
            go_ret
            exact ⟨ret_bo (by simp [insB, hall, he, endsB, e1]), hB⟩
        · have he' : ((i : Int) == (f.d.ins.length : Int) - 1) = false := by simp; omega
          go_wp2_with fail
          go_ret
          exact ⟨ret_bo (by simp [insB, hall, he]), hB⟩
  · go_enter Tryz.func22, Tryz.ntmps22
    go_wp2_with (go_at_call 39; refine (roles_out _ _ hop).mono ?_; rintro e w' ⟨rfl, rfl⟩)
    go_ret
    refine ⟨ret_bo ?_, by exact bw2 _ _ _⟩
    have : inR n.op 1 42 = false := by simpa [inR] using hop
    simp [insB, fieldsB, this]
end Go.Proofs.YtmicnjphlakoaaaGreatDoor
